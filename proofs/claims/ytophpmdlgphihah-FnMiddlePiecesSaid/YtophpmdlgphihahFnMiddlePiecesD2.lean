import Derived.Test.YtophpmdlgphihahFnMiddlePiecesD1
namespace Go.Rx.Try
open Go.Proofs
set_option maxRecDepth 100000
set_option maxHeartbeats 8000000
set_option linter.unusedSimpArgs false
set_option linter.unusedVariables false

theorem sortedCopy_ok {H : Heap} {a : AV} {xs : List Int} (ha : Ints H a xs) (hl : xs.length ≤ 12) :
    ACalls Try.prog fn_impl_sortedCopy [a] H fun r H' => OwnI H H' r (sortL xs) ∧ Le H H' := by
  refine code_impl_sortedCopy.go [.roI a xs.length xs] ⟨⟨rfl, ha⟩, trivial⟩ (by simp) ?_
  unfold mc_impl_sortedCopy
  (repeat (first | refine gst (hk := ?_) | (show GO _ _ _ _ _ (⟨some _, none, .call _ _⟩ :: _) _; first | (refine go_calln rfl code_slices_Clone_ints.callable (fun H hH => clone_ok (hH.ints (by exact Has.auto)) (by omega)) ?_; intro u) | (refine go_callg rfl code_slices_Sort_ints.callable (fun H hH => slicesSort_ok hH (by exact Sel.auto) (by omega)) ?_; intro g hg) | (refine go_callg rfl code_slices_Sort_ints.callable (fun H hH => sortAny_ok hH (by exact Sel.auto) (by omega)) ?_; intro g hg)) | (show GO _ _ _ _ _ (⟨some _, none, _⟩ :: _) _; first | refine go_op (hk := ?_) | (refine go_nw (hk := ?_); intro u; try simp only [llc, lln, lna, lza]) | (refine go_np (hk := ?_); intro id)) | (show GO _ _ _ _ _ (⟨none, none, _⟩ :: _) _; refine go_st (hk := ?_)) | (show GO _ _ _ _ _ (⟨_, some _, _⟩ :: _) _; first | refine go_in (hk := ?_) | refine go_out (hk := ?_) | refine go_void (hk := ?_)) | (show GK _ _ _ _ (blockK _ _ _); refine gk_past rfl ?_) | (show GC _ _ _ _ _ (.cond _ _ _) _; first | refine gc_yes (h1 := ?_) | refine gc_no (h1 := ?_))))
  refine gk_ret rfl fun H' hH => ?_
  unfold OwnI
  rw [sortL_length]
  exact hH.give .head

theorem specSorted_ok {H : Heap} {a : AV} {xs : List Int} (ha : Ints H a xs) (hl : xs.length ≤ 1000000) :
    ACalls Try.prog fn_spec_sorted [a] H fun r H' => OwnI H H' r (sortL xs) ∧ Le H H' := by
  refine code_spec_sorted.go [.roI a xs.length xs] ⟨⟨rfl, ha⟩, trivial⟩ (by simp) ?_
  unfold mc_spec_sorted
  (repeat (first | refine gst (hk := ?_) | (with_reducible refine gc_drq ?_; intro _) | (with_reducible first | (refine gc_drw (h := ?_); intro _) | (refine gc_drw2 (h := ?_); intro _)) | (show GO _ _ _ _ _ (⟨some _, none, _⟩ :: _) _; first | refine go_op (hk := ?_) | (refine go_nw (hk := ?_); intro u; try simp only [llc, lln, lna, lza]) | (refine go_np (hk := ?_); intro id)) | (show GQ _ _ _ _ _ _ _ (⟨some _, none, _⟩ :: _) _; first | refine gq_op (hk := ?_) | (refine gq_nw (hk := ?_); intro u; try simp only [llc, lln, lna, lza])) | (show GD _ _ _ _ _ _ _ (⟨some _, none, _⟩ :: _) _; first | refine gd_op (hk := ?_) | (refine gd_nw (hk := ?_); intro u; try simp only [llc, lln, lna, lza])) | (show GD2 _ _ _ _ _ _ _ _ _ _ _ _ _ _; first | refine gd2_nil rfl ?_ | refine gd2_op (hk := ?_) | (refine gd2_nw (hk := ?_); intro u; try simp only [llc, lln, lna, lza]) | refine gd2_l (hk := ?_) | refine gd2_lp (hk := ?_) | (refine gd2_newp (hk := ?_); intro id) | refine gd2_st (hk := ?_) | (refine gd2_bsl rfl rfl ?_; intro u; try simp only [llc, lln, lna, lza]) | (refine gd2_a (hk := ?_); intro u; try simp only [llc, lln, lna, lza])) | (show GO _ _ _ _ _ (⟨none, none, _⟩ :: _) _; refine go_st (hk := ?_)) | (show GD _ _ _ _ _ _ _ (⟨none, none, _⟩ :: _) _; refine gd_st (hk := ?_)) | (show GO _ _ _ _ _ (⟨_, some _, _⟩ :: _) _; first | refine go_in (hk := ?_) | refine go_out (hk := ?_) | refine go_void (hk := ?_)) | (show GQ _ _ _ _ _ _ _ (⟨_, some _, _⟩ :: _) _; first | refine gq_in (hk := ?_) | refine gq_out (hk := ?_) | refine gq_void (hk := ?_)) | (show GK _ _ _ _ (blockK _ _ _); refine gk_past rfl ?_) | (show GC _ _ _ _ _ (.cond _ _ _) _; first | refine gc_yes (h1 := ?_) | refine gc_no (h1 := ?_))))
  refine gc_upv xs.length (fun i v => [(0, a), (3, v), (4, .int .i64 (i : Int))]) (fun i v => [.rwI v i (sortTo xs i), .roI a xs.length xs]) u (hb := ?_)
  intro i v hi I ν m hn
  have hsl := sortTo_length xs i
  have hu := sortTo_up xs i
  (repeat (first | refine gst (hk := ?_) | (with_reducible refine gc_drq ?_; intro _) | (with_reducible first | (refine gc_drw (h := ?_); intro _) | (refine gc_drw2 (h := ?_); intro _)) | (show GO _ _ _ _ _ (⟨some _, none, _⟩ :: _) _; first | refine go_op (hk := ?_) | (refine go_nw (hk := ?_); intro u; try simp only [llc, lln, lna, lza]) | (refine go_np (hk := ?_); intro id)) | (show GQ _ _ _ _ _ _ _ (⟨some _, none, _⟩ :: _) _; first | refine gq_op (hk := ?_) | (refine gq_nw (hk := ?_); intro u; try simp only [llc, lln, lna, lza])) | (show GD _ _ _ _ _ _ _ (⟨some _, none, _⟩ :: _) _; first | refine gd_op (hk := ?_) | (refine gd_nw (hk := ?_); intro u; try simp only [llc, lln, lna, lza])) | (show GD2 _ _ _ _ _ _ _ _ _ _ _ _ _ _; first | refine gd2_nil rfl ?_ | refine gd2_op (hk := ?_) | (refine gd2_nw (hk := ?_); intro u; try simp only [llc, lln, lna, lza]) | refine gd2_l (hk := ?_) | refine gd2_lp (hk := ?_) | (refine gd2_newp (hk := ?_); intro id) | refine gd2_st (hk := ?_) | (refine gd2_bsl rfl rfl ?_; intro u; try simp only [llc, lln, lna, lza]) | (refine gd2_a (hk := ?_); intro u; try simp only [llc, lln, lna, lza])) | (show GO _ _ _ _ _ (⟨none, none, _⟩ :: _) _; refine go_st (hk := ?_)) | (show GD _ _ _ _ _ _ _ (⟨none, none, _⟩ :: _) _; refine gd_st (hk := ?_)) | (show GO _ _ _ _ _ (⟨_, some _, _⟩ :: _) _; first | refine go_in (hk := ?_) | refine go_out (hk := ?_) | refine go_void (hk := ?_)) | (show GQ _ _ _ _ _ _ _ (⟨_, some _, _⟩ :: _) _; first | refine gq_in (hk := ?_) | refine gq_out (hk := ?_) | refine gq_void (hk := ?_)) | (show GK _ _ _ _ (blockK _ _ _); refine gk_past rfl ?_) | (show GC _ _ _ _ _ (.cond _ _ _) _; first | refine gc_yes (h1 := ?_) | refine gc_no (h1 := ?_))))
  refine gc_cond rfl (fun h => ?_) (fun h => ?_)
  · have hi' : i < xs.length := by omega
    (repeat (first | refine gst (hk := ?_) | (with_reducible refine gc_drq ?_; intro _) | (with_reducible first | (refine gc_drw (h := ?_); intro _) | (refine gc_drw2 (h := ?_); intro _)) | (show GO _ _ _ _ _ (⟨some _, none, _⟩ :: _) _; first | refine go_op (hk := ?_) | (refine go_nw (hk := ?_); intro u; try simp only [llc, lln, lna, lza]) | (refine go_np (hk := ?_); intro id)) | (show GQ _ _ _ _ _ _ _ (⟨some _, none, _⟩ :: _) _; first | refine gq_op (hk := ?_) | (refine gq_nw (hk := ?_); intro u; try simp only [llc, lln, lna, lza])) | (show GD _ _ _ _ _ _ _ (⟨some _, none, _⟩ :: _) _; first | refine gd_op (hk := ?_) | (refine gd_nw (hk := ?_); intro u; try simp only [llc, lln, lna, lza])) | (show GD2 _ _ _ _ _ _ _ _ _ _ _ _ _ _; first | refine gd2_nil rfl ?_ | refine gd2_op (hk := ?_) | (refine gd2_nw (hk := ?_); intro u; try simp only [llc, lln, lna, lza]) | refine gd2_l (hk := ?_) | refine gd2_lp (hk := ?_) | (refine gd2_newp (hk := ?_); intro id) | refine gd2_st (hk := ?_) | (refine gd2_bsl rfl rfl ?_; intro u; try simp only [llc, lln, lna, lza]) | (refine gd2_a (hk := ?_); intro u; try simp only [llc, lln, lna, lza])) | (show GO _ _ _ _ _ (⟨none, none, _⟩ :: _) _; refine go_st (hk := ?_)) | (show GD _ _ _ _ _ _ _ (⟨none, none, _⟩ :: _) _; refine gd_st (hk := ?_)) | (show GO _ _ _ _ _ (⟨_, some _, _⟩ :: _) _; first | refine go_in (hk := ?_) | refine go_out (hk := ?_) | refine go_void (hk := ?_)) | (show GQ _ _ _ _ _ _ _ (⟨_, some _, _⟩ :: _) _; first | refine gq_in (hk := ?_) | refine gq_out (hk := ?_) | refine gq_void (hk := ?_)) | (show GK _ _ _ _ (blockK _ _ _); refine gk_past rfl ?_) | (show GC _ _ _ _ _ (.cond _ _ _) _; first | refine gc_yes (h1 := ?_) | refine gc_no (h1 := ?_))))
    refine gc_loop (fun k : Nat => [(0, a), (3, v), (4, .int .i64 (i : Int)), (5, .int .i64 (k : Int))]) (fun _ => [.rwI v i (sortTo xs i), .roI a xs.length xs]) (fun k => k ≤ i ∧ ∀ k', k' < k → nth (sortTo xs i) k' ≤ nth xs i) (fun k => i - k) 0 ⟨Nat.zero_le _, by omega⟩ (hb := ?_)
    rintro k ⟨hk, hk2⟩ I' ν' m' hn'
    (repeat (first | refine gst (hk := ?_) | (with_reducible refine gc_drq ?_; intro _) | (with_reducible first | (refine gc_drw (h := ?_); intro _) | (refine gc_drw2 (h := ?_); intro _)) | (show GO _ _ _ _ _ (⟨some _, none, _⟩ :: _) _; first | refine go_op (hk := ?_) | (refine go_nw (hk := ?_); intro u; try simp only [llc, lln, lna, lza]) | (refine go_np (hk := ?_); intro id)) | (show GQ _ _ _ _ _ _ _ (⟨some _, none, _⟩ :: _) _; first | refine gq_op (hk := ?_) | (refine gq_nw (hk := ?_); intro u; try simp only [llc, lln, lna, lza])) | (show GD _ _ _ _ _ _ _ (⟨some _, none, _⟩ :: _) _; first | refine gd_op (hk := ?_) | (refine gd_nw (hk := ?_); intro u; try simp only [llc, lln, lna, lza])) | (show GD2 _ _ _ _ _ _ _ _ _ _ _ _ _ _; first | refine gd2_nil rfl ?_ | refine gd2_op (hk := ?_) | (refine gd2_nw (hk := ?_); intro u; try simp only [llc, lln, lna, lza]) | refine gd2_l (hk := ?_) | refine gd2_lp (hk := ?_) | (refine gd2_newp (hk := ?_); intro id) | refine gd2_st (hk := ?_) | (refine gd2_bsl rfl rfl ?_; intro u; try simp only [llc, lln, lna, lza]) | (refine gd2_a (hk := ?_); intro u; try simp only [llc, lln, lna, lza])) | (show GO _ _ _ _ _ (⟨none, none, _⟩ :: _) _; refine go_st (hk := ?_)) | (show GD _ _ _ _ _ _ _ (⟨none, none, _⟩ :: _) _; refine gd_st (hk := ?_)) | (show GO _ _ _ _ _ (⟨_, some _, _⟩ :: _) _; first | refine go_in (hk := ?_) | refine go_out (hk := ?_) | refine go_void (hk := ?_)) | (show GQ _ _ _ _ _ _ _ (⟨_, some _, _⟩ :: _) _; first | refine gq_in (hk := ?_) | refine gq_out (hk := ?_) | refine gq_void (hk := ?_)) | (show GK _ _ _ _ (blockK _ _ _); refine gk_past rfl ?_) | (show GC _ _ _ _ _ (.cond _ _ _) _; first | refine gc_yes (h1 := ?_) | refine gc_no (h1 := ?_))))
    have last : (∀ k', k ≤ k' → k' < i → nth xs i < nth (sortTo xs i) k') → sortTo xs (i + 1) = (sortTo xs i).take k ++ nth xs i :: (sortTo xs i).drop k := by
      intro h5
      exact insN_at (by omega) hk2 (fun k' h6 h7 => h5 k' h6 (by omega))
    refine gq_split 17 rfl (fun h3 => ?_) (fun h3 => ?_)
    · (repeat (first | refine gst (hk := ?_) | (with_reducible refine gc_drq ?_; intro _) | (with_reducible first | (refine gc_drw (h := ?_); intro _) | (refine gc_drw2 (h := ?_); intro _)) | (show GO _ _ _ _ _ (⟨some _, none, _⟩ :: _) _; first | refine go_op (hk := ?_) | (refine go_nw (hk := ?_); intro u; try simp only [llc, lln, lna, lza]) | (refine go_np (hk := ?_); intro id)) | (show GQ _ _ _ _ _ _ _ (⟨some _, none, _⟩ :: _) _; first | refine gq_op (hk := ?_) | (refine gq_nw (hk := ?_); intro u; try simp only [llc, lln, lna, lza])) | (show GD _ _ _ _ _ _ _ (⟨some _, none, _⟩ :: _) _; first | refine gd_op (hk := ?_) | (refine gd_nw (hk := ?_); intro u; try simp only [llc, lln, lna, lza])) | (show GD2 _ _ _ _ _ _ _ _ _ _ _ _ _ _; first | refine gd2_nil rfl ?_ | refine gd2_op (hk := ?_) | (refine gd2_nw (hk := ?_); intro u; try simp only [llc, lln, lna, lza]) | refine gd2_l (hk := ?_) | refine gd2_lp (hk := ?_) | (refine gd2_newp (hk := ?_); intro id) | refine gd2_st (hk := ?_) | (refine gd2_bsl rfl rfl ?_; intro u; try simp only [llc, lln, lna, lza]) | (refine gd2_a (hk := ?_); intro u; try simp only [llc, lln, lna, lza])) | (show GO _ _ _ _ _ (⟨none, none, _⟩ :: _) _; refine go_st (hk := ?_)) | (show GD _ _ _ _ _ _ _ (⟨none, none, _⟩ :: _) _; refine gd_st (hk := ?_)) | (show GO _ _ _ _ _ (⟨_, some _, _⟩ :: _) _; first | refine go_in (hk := ?_) | refine go_out (hk := ?_) | refine go_void (hk := ?_)) | (show GQ _ _ _ _ _ _ _ (⟨_, some _, _⟩ :: _) _; first | refine gq_in (hk := ?_) | refine gq_out (hk := ?_) | refine gq_void (hk := ?_)) | (show GK _ _ _ _ (blockK _ _ _); refine gk_past rfl ?_) | (show GC _ _ _ _ _ (.cond _ _ _) _; first | refine gc_yes (h1 := ?_) | refine gc_no (h1 := ?_))))
      refine gc_cond rfl (fun h4 => ?_) (fun h4 => ?_)
      · (repeat (first | refine gst (hk := ?_) | (with_reducible refine gc_drq ?_; intro _) | (with_reducible first | (refine gc_drw (h := ?_); intro _) | (refine gc_drw2 (h := ?_); intro _)) | (show GO _ _ _ _ _ (⟨some _, none, _⟩ :: _) _; first | refine go_op (hk := ?_) | (refine go_nw (hk := ?_); intro u; try simp only [llc, lln, lna, lza]) | (refine go_np (hk := ?_); intro id)) | (show GQ _ _ _ _ _ _ _ (⟨some _, none, _⟩ :: _) _; first | refine gq_op (hk := ?_) | (refine gq_nw (hk := ?_); intro u; try simp only [llc, lln, lna, lza])) | (show GD _ _ _ _ _ _ _ (⟨some _, none, _⟩ :: _) _; first | refine gd_op (hk := ?_) | (refine gd_nw (hk := ?_); intro u; try simp only [llc, lln, lna, lza])) | (show GD2 _ _ _ _ _ _ _ _ _ _ _ _ _ _; first | refine gd2_nil rfl ?_ | refine gd2_op (hk := ?_) | (refine gd2_nw (hk := ?_); intro u; try simp only [llc, lln, lna, lza]) | refine gd2_l (hk := ?_) | refine gd2_lp (hk := ?_) | (refine gd2_newp (hk := ?_); intro id) | refine gd2_st (hk := ?_) | (refine gd2_bsl rfl rfl ?_; intro u; try simp only [llc, lln, lna, lza]) | (refine gd2_a (hk := ?_); intro u; try simp only [llc, lln, lna, lza])) | (show GO _ _ _ _ _ (⟨none, none, _⟩ :: _) _; refine go_st (hk := ?_)) | (show GD _ _ _ _ _ _ _ (⟨none, none, _⟩ :: _) _; refine gd_st (hk := ?_)) | (show GO _ _ _ _ _ (⟨_, some _, _⟩ :: _) _; first | refine go_in (hk := ?_) | refine go_out (hk := ?_) | refine go_void (hk := ?_)) | (show GQ _ _ _ _ _ _ _ (⟨_, some _, _⟩ :: _) _; first | refine gq_in (hk := ?_) | refine gq_out (hk := ?_) | refine gq_void (hk := ?_)) | (show GK _ _ _ _ (blockK _ _ _); refine gk_past rfl ?_) | (show GC _ _ _ _ _ (.cond _ _ _) _; first | refine gc_yes (h1 := ?_) | refine gc_no (h1 := ?_))))
        refine gk_next (hn' (k + 1) ⟨by omega, fun k' h6 => ?_⟩ (by omega))
        by_cases h7 : k' = k
        · subst h7; exact h4
        · exact hk2 k' (by omega)
      · refine gc_freeze .head ?_
        (repeat (first | refine gst (hk := ?_) | (with_reducible refine gc_drq ?_; intro _) | (with_reducible first | (refine gc_drw (h := ?_); intro _) | (refine gc_drw2 (h := ?_); intro _)) | (show GO _ _ _ _ _ (⟨some _, none, _⟩ :: _) _; first | refine go_op (hk := ?_) | (refine go_nw (hk := ?_); intro u; try simp only [llc, lln, lna, lza]) | (refine go_np (hk := ?_); intro id)) | (show GQ _ _ _ _ _ _ _ (⟨some _, none, _⟩ :: _) _; first | refine gq_op (hk := ?_) | (refine gq_nw (hk := ?_); intro u; try simp only [llc, lln, lna, lza])) | (show GD _ _ _ _ _ _ _ (⟨some _, none, _⟩ :: _) _; first | refine gd_op (hk := ?_) | (refine gd_nw (hk := ?_); intro u; try simp only [llc, lln, lna, lza])) | (show GD2 _ _ _ _ _ _ _ _ _ _ _ _ _ _; first | refine gd2_nil rfl ?_ | refine gd2_op (hk := ?_) | (refine gd2_nw (hk := ?_); intro u; try simp only [llc, lln, lna, lza]) | refine gd2_l (hk := ?_) | refine gd2_lp (hk := ?_) | (refine gd2_newp (hk := ?_); intro id) | refine gd2_st (hk := ?_) | (refine gd2_bsl rfl rfl ?_; intro u; try simp only [llc, lln, lna, lza]) | (refine gd2_a (hk := ?_); intro u; try simp only [llc, lln, lna, lza])) | (show GO _ _ _ _ _ (⟨none, none, _⟩ :: _) _; refine go_st (hk := ?_)) | (show GD _ _ _ _ _ _ _ (⟨none, none, _⟩ :: _) _; refine gd_st (hk := ?_)) | (show GO _ _ _ _ _ (⟨_, some _, _⟩ :: _) _; first | refine go_in (hk := ?_) | refine go_out (hk := ?_) | refine go_void (hk := ?_)) | (show GQ _ _ _ _ _ _ _ (⟨_, some _, _⟩ :: _) _; first | refine gq_in (hk := ?_) | refine gq_out (hk := ?_) | refine gq_void (hk := ?_)) | (show GK _ _ _ _ (blockK _ _ _); refine gk_past rfl ?_) | (show GC _ _ _ _ _ (.cond _ _ _) _; first | refine gc_yes (h1 := ?_) | refine gc_no (h1 := ?_))))
        have hk := hn hi' u
        rw [last (fun k' h6 h7 => by have := hu.le (i := k) (j := k') h6 (by omega); omega)] at hk
        rw [show k + 1 + (i - k) = i + 1 by omega, List.append_assoc]
        exact gk_next hk
    · refine gq_freeze .head ?_
      (repeat (first | refine gst (hk := ?_) | (with_reducible refine gc_drq ?_; intro _) | (with_reducible first | (refine gc_drw (h := ?_); intro _) | (refine gc_drw2 (h := ?_); intro _)) | (show GO _ _ _ _ _ (⟨some _, none, _⟩ :: _) _; first | refine go_op (hk := ?_) | (refine go_nw (hk := ?_); intro u; try simp only [llc, lln, lna, lza]) | (refine go_np (hk := ?_); intro id)) | (show GQ _ _ _ _ _ _ _ (⟨some _, none, _⟩ :: _) _; first | refine gq_op (hk := ?_) | (refine gq_nw (hk := ?_); intro u; try simp only [llc, lln, lna, lza])) | (show GD _ _ _ _ _ _ _ (⟨some _, none, _⟩ :: _) _; first | refine gd_op (hk := ?_) | (refine gd_nw (hk := ?_); intro u; try simp only [llc, lln, lna, lza])) | (show GD2 _ _ _ _ _ _ _ _ _ _ _ _ _ _; first | refine gd2_nil rfl ?_ | refine gd2_op (hk := ?_) | (refine gd2_nw (hk := ?_); intro u; try simp only [llc, lln, lna, lza]) | refine gd2_l (hk := ?_) | refine gd2_lp (hk := ?_) | (refine gd2_newp (hk := ?_); intro id) | refine gd2_st (hk := ?_) | (refine gd2_bsl rfl rfl ?_; intro u; try simp only [llc, lln, lna, lza]) | (refine gd2_a (hk := ?_); intro u; try simp only [llc, lln, lna, lza])) | (show GO _ _ _ _ _ (⟨none, none, _⟩ :: _) _; refine go_st (hk := ?_)) | (show GD _ _ _ _ _ _ _ (⟨none, none, _⟩ :: _) _; refine gd_st (hk := ?_)) | (show GO _ _ _ _ _ (⟨_, some _, _⟩ :: _) _; first | refine go_in (hk := ?_) | refine go_out (hk := ?_) | refine go_void (hk := ?_)) | (show GQ _ _ _ _ _ _ _ (⟨_, some _, _⟩ :: _) _; first | refine gq_in (hk := ?_) | refine gq_out (hk := ?_) | refine gq_void (hk := ?_)) | (show GK _ _ _ _ (blockK _ _ _); refine gk_past rfl ?_) | (show GC _ _ _ _ _ (.cond _ _ _) _; first | refine gc_yes (h1 := ?_) | refine gc_no (h1 := ?_))))
      have hk := hn hi' u
      rw [last (fun k' h6 h7 => by omega)] at hk
      rw [show k + 1 + (i - k) = i + 1 by omega, List.append_assoc]
      exact gk_next hk
  · (repeat (first | refine gst (hk := ?_) | (with_reducible refine gc_drq ?_; intro _) | (with_reducible first | (refine gc_drw (h := ?_); intro _) | (refine gc_drw2 (h := ?_); intro _)) | (show GO _ _ _ _ _ (⟨some _, none, _⟩ :: _) _; first | refine go_op (hk := ?_) | (refine go_nw (hk := ?_); intro u; try simp only [llc, lln, lna, lza]) | (refine go_np (hk := ?_); intro id)) | (show GQ _ _ _ _ _ _ _ (⟨some _, none, _⟩ :: _) _; first | refine gq_op (hk := ?_) | (refine gq_nw (hk := ?_); intro u; try simp only [llc, lln, lna, lza])) | (show GD _ _ _ _ _ _ _ (⟨some _, none, _⟩ :: _) _; first | refine gd_op (hk := ?_) | (refine gd_nw (hk := ?_); intro u; try simp only [llc, lln, lna, lza])) | (show GD2 _ _ _ _ _ _ _ _ _ _ _ _ _ _; first | refine gd2_nil rfl ?_ | refine gd2_op (hk := ?_) | (refine gd2_nw (hk := ?_); intro u; try simp only [llc, lln, lna, lza]) | refine gd2_l (hk := ?_) | refine gd2_lp (hk := ?_) | (refine gd2_newp (hk := ?_); intro id) | refine gd2_st (hk := ?_) | (refine gd2_bsl rfl rfl ?_; intro u; try simp only [llc, lln, lna, lza]) | (refine gd2_a (hk := ?_); intro u; try simp only [llc, lln, lna, lza])) | (show GO _ _ _ _ _ (⟨none, none, _⟩ :: _) _; refine go_st (hk := ?_)) | (show GD _ _ _ _ _ _ _ (⟨none, none, _⟩ :: _) _; refine gd_st (hk := ?_)) | (show GO _ _ _ _ _ (⟨_, some _, _⟩ :: _) _; first | refine go_in (hk := ?_) | refine go_out (hk := ?_) | refine go_void (hk := ?_)) | (show GQ _ _ _ _ _ _ _ (⟨_, some _, _⟩ :: _) _; first | refine gq_in (hk := ?_) | refine gq_out (hk := ?_) | refine gq_void (hk := ?_)) | (show GK _ _ _ _ (blockK _ _ _); refine gk_past rfl ?_) | (show GC _ _ _ _ _ (.cond _ _ _) _; first | refine gc_yes (h1 := ?_) | refine gc_no (h1 := ?_))))
    have : i = xs.length := by omega
    subst this
    refine gk_ret rfl fun H' hH => ?_
    unfold OwnI
    rw [sortL_length]
    exact hH.give .head

theorem compare_ok {H : Heap} {m n : Int} : ACalls Try.prog fn_cmp_Compare_int [.int .i64 m, .int .i64 n] H fun r H' => r = .int .i64 (sgn (m - n)) ∧ H' = H := by
  refine ACalls.val ?_ rfl
  refine code_cmp_Compare_int.go [] trivial (by simp) ?_
  unfold mc_cmp_Compare_int
  (repeat (first | refine gst (hk := ?_) | (show GO _ _ _ _ _ (⟨some _, none, .call _ _⟩ :: _) _; first | (refine go_callp rfl code_cmp_isNaN_int.callable (fun H hH => isNaN_ok) ?_)) | (show GO _ _ _ _ _ (⟨some _, none, _⟩ :: _) _; first | refine go_op (hk := ?_) | (refine go_nw (hk := ?_); intro u; try simp only [llc, lln, lna, lza]) | (refine go_np (hk := ?_); intro id)) | (show GO _ _ _ _ _ (⟨none, none, _⟩ :: _) _; refine go_st (hk := ?_)) | (show GO _ _ _ _ _ (⟨_, some _, _⟩ :: _) _; first | refine go_in (hk := ?_) | refine go_out (hk := ?_) | refine go_void (hk := ?_)) | (show GK _ _ _ _ (blockK _ _ _); refine gk_past rfl ?_) | (show GC _ _ _ _ _ (.cond _ _ _) _; first | refine gc_yes (h1 := ?_) | refine gc_no (h1 := ?_))))
  refine gc_cond rfl (fun h1 => ?_) (fun h1 => ?_)
  · (repeat (first | refine gst (hk := ?_) | (show GO _ _ _ _ _ (⟨some _, none, .call _ _⟩ :: _) _; first | (refine go_callp rfl code_cmp_isNaN_int.callable (fun H hH => isNaN_ok) ?_)) | (show GO _ _ _ _ _ (⟨some _, none, _⟩ :: _) _; first | refine go_op (hk := ?_) | (refine go_nw (hk := ?_); intro u; try simp only [llc, lln, lna, lza]) | (refine go_np (hk := ?_); intro id)) | (show GO _ _ _ _ _ (⟨none, none, _⟩ :: _) _; refine go_st (hk := ?_)) | (show GO _ _ _ _ _ (⟨_, some _, _⟩ :: _) _; first | refine go_in (hk := ?_) | refine go_out (hk := ?_) | refine go_void (hk := ?_)) | (show GK _ _ _ _ (blockK _ _ _); refine gk_past rfl ?_) | (show GC _ _ _ _ _ (.cond _ _ _) _; first | refine gc_yes (h1 := ?_) | refine gc_no (h1 := ?_))))
    refine gk_ret rfl fun H' hH => ⟨?_, hH.leE⟩
    unfold sgn; rw [if_neg (by omega), if_pos (by omega)]; rfl
  (repeat (first | refine gst (hk := ?_) | (show GO _ _ _ _ _ (⟨some _, none, .call _ _⟩ :: _) _; first | (refine go_callp rfl code_cmp_isNaN_int.callable (fun H hH => isNaN_ok) ?_)) | (show GO _ _ _ _ _ (⟨some _, none, _⟩ :: _) _; first | refine go_op (hk := ?_) | (refine go_nw (hk := ?_); intro u; try simp only [llc, lln, lna, lza]) | (refine go_np (hk := ?_); intro id)) | (show GO _ _ _ _ _ (⟨none, none, _⟩ :: _) _; refine go_st (hk := ?_)) | (show GO _ _ _ _ _ (⟨_, some _, _⟩ :: _) _; first | refine go_in (hk := ?_) | refine go_out (hk := ?_) | refine go_void (hk := ?_)) | (show GK _ _ _ _ (blockK _ _ _); refine gk_past rfl ?_) | (show GC _ _ _ _ _ (.cond _ _ _) _; first | refine gc_yes (h1 := ?_) | refine gc_no (h1 := ?_))))
  refine gc_cond rfl (fun h2 => ?_) (fun h2 => ?_)
  · (repeat (first | refine gst (hk := ?_) | (show GO _ _ _ _ _ (⟨some _, none, .call _ _⟩ :: _) _; first | (refine go_callp rfl code_cmp_isNaN_int.callable (fun H hH => isNaN_ok) ?_)) | (show GO _ _ _ _ _ (⟨some _, none, _⟩ :: _) _; first | refine go_op (hk := ?_) | (refine go_nw (hk := ?_); intro u; try simp only [llc, lln, lna, lza]) | (refine go_np (hk := ?_); intro id)) | (show GO _ _ _ _ _ (⟨none, none, _⟩ :: _) _; refine go_st (hk := ?_)) | (show GO _ _ _ _ _ (⟨_, some _, _⟩ :: _) _; first | refine go_in (hk := ?_) | refine go_out (hk := ?_) | refine go_void (hk := ?_)) | (show GK _ _ _ _ (blockK _ _ _); refine gk_past rfl ?_) | (show GC _ _ _ _ _ (.cond _ _ _) _; first | refine gc_yes (h1 := ?_) | refine gc_no (h1 := ?_))))
    refine gk_ret rfl fun H' hH => ⟨?_, hH.leE⟩
    unfold sgn; rw [if_pos (by omega)]; rfl
  (repeat (first | refine gst (hk := ?_) | (show GO _ _ _ _ _ (⟨some _, none, .call _ _⟩ :: _) _; first | (refine go_callp rfl code_cmp_isNaN_int.callable (fun H hH => isNaN_ok) ?_)) | (show GO _ _ _ _ _ (⟨some _, none, _⟩ :: _) _; first | refine go_op (hk := ?_) | (refine go_nw (hk := ?_); intro u; try simp only [llc, lln, lna, lza]) | (refine go_np (hk := ?_); intro id)) | (show GO _ _ _ _ _ (⟨none, none, _⟩ :: _) _; refine go_st (hk := ?_)) | (show GO _ _ _ _ _ (⟨_, some _, _⟩ :: _) _; first | refine go_in (hk := ?_) | refine go_out (hk := ?_) | refine go_void (hk := ?_)) | (show GK _ _ _ _ (blockK _ _ _); refine gk_past rfl ?_) | (show GC _ _ _ _ _ (.cond _ _ _) _; first | refine gc_yes (h1 := ?_) | refine gc_no (h1 := ?_))))
  refine gk_ret rfl fun H' hH => ⟨?_, hH.leE⟩
  unfold sgn; rw [if_neg (by omega), if_neg (by omega)]; rfl

def qtCmp (f : FuncId) (args : List AV) : Option AV :=
  if f = fn_cmp_Compare_int then match args with
    | [.int .i64 m, .int .i64 n] => some (.int .i64 (sgn (m - n)))
    | _ => none
  else none

theorem qtCmp_is {m n : Int} : qtCmp fn_cmp_Compare_int [.int .i64 m, .int .i64 n] = some (.int .i64 (sgn (m - n))) := rfl

theorem insN_perm (x : Int) : ∀ l : List Int, (insN x l).Perm (x :: l)
  | [] => .refl _
  | y :: l => by
    unfold insN
    split
    · exact ((insN_perm x l).cons y).trans (.swap x y l)
    · exact .refl _

theorem sortTo_perm (xs : List Int) : ∀ i, i ≤ xs.length → (sortTo xs i).Perm (xs.take i)
  | 0, _ => .refl _
  | i + 1, h => by
    rw [sortTo, take_snoc (by omega)]
    refine (insN_perm _ _).trans ?_
    refine ((sortTo_perm xs i (by omega)).cons _).trans ?_
    exact (List.perm_append_singleton _ _).symm

theorem sortL_perm (xs : List Int) : (sortL xs).Perm xs := by
  have := sortTo_perm xs xs.length (Nat.le_refl _)
  rwa [List.take_length] at this

theorem sortL_up (xs : List Int) : Up (sortL xs) := sortTo_up xs _

structure F4 where
  a : Int
  b : Int
  c : Int
  d : Int

abbrev F4.v (g : F4) : AV := .agg [.int .i64 g.a, .int .i64 g.b, .int .i64 g.c, .int .i64 g.d]

abbrev F4.ok (g : F4) : Prop := (0 ≤ g.a ∧ g.a ≤ 5) ∧ (-1 ≤ g.b ∧ (g.b ≤ 5 ∨ g.b = 9)) ∧ (0 ≤ g.c ∧ g.c ≤ 5) ∧ (0 ≤ g.d ∧ g.d ≤ 8)

theorem slice_cells {H : Heap} {a : AV} {xs : List Int} (h : Ints H a xs) : a.cells = [a] ∧ a.one = true := by
  have := h.sl
  cases a <;> simp [AV.isSlice] at this <;> exact ⟨rfl, rfl⟩

theorem Samples.swap {xs ys : List Int} (h : Samples xs ys) : Samples ys xs := ⟨⟨h.1.2, h.1.1⟩, by have := h.2; omega, by have := h.2; omega, by have := h.2; omega⟩

/-- a slice of one value, a slice of none -/
theorem stp_bslv {A : Heap} {X : List Nat} {E : List (Nat × AV)} {S : Sig} {x : MX} {z u : AV} (hx : evE E x = some u) (h1 : u.cells = [u]) (h2 : u.one = true) : Stp A X E S (.bsl 1 1 [z] [(0, x)]) (New fun v => ⟨.rw, v, 1, 1, [u]⟩ :: S) := by
  refine ⟨?_⟩
  intro τ H m nid hE hS hm
  have hs := Heap.lt_new H nid (some ⟨true, [u]⟩)
  refine ⟨.slice nid 0 1 none 1, _, H.new nid (some ⟨true, [u]⟩), nid + 1, rfl, ?_, ?_, by omega, Nat.le_refl _, Heap.size_le_new _ _ _⟩
  · simp only [mstep, List.map_cons, List.map_nil, ev_of hE hx]
    have e : fillL (zrep [z] (1 * 1)) [(0 * 1, 1, u)] = some [u] := by simp [fillL, zrep, h1, h2, List.range_succ]
    rw [e]
  · refine hS.add ?_ (by omega) hs ⟨?_, rfl, .inr ⟨nid, rfl, .inl (by have := hS.am; omega), by simp [Heap.get_new]⟩⟩ ?_
    · intro id hid; rw [Heap.get_new, if_neg (by omega)]
    · intro k hk; simp only [AV.bid, Option.some.injEq] at hk; omega
    · intro k hk; simp only [AV.bid, Option.some.injEq] at hk; omega

def SumsOk (xs : List Int) : Prop := (∀ i, i < xs.length → 0 ≤ nth xs i ∧ nth xs i ≤ 6) ∧ 1 ≤ xs.length ∧ xs.length ≤ 3

noncomputable instance (xs : List Int) : Decidable (SumsOk xs) := Classical.propDecidable _

abbrev TabOk (xs ys : List Int) : Prop := (SumsOk xs ∧ SumsOk ys) ∧ sumL xs = sumL ys

def B4 (xs : List Int) : Prop := ∀ x ∈ xs, 0 ≤ x ∧ x ≤ 4

theorem B4.app {xs ys : List Int} (h : B4 xs) (k : B4 ys) : B4 (xs ++ ys) := by
  intro x hx
  rcases List.mem_append.1 hx with hx | hx
  · exact h x hx
  · exact k x hx

theorem B4.bd {xs : List Int} (h : B4 xs) : Bd 1000000 xs := fun x hx => by have := h x hx; omega

theorem Bd.set {b y : Int} {xs : List Int} {i : Nat} (h : Bd b xs) (hy : -b ≤ y ∧ y ≤ b) : Bd b (xs.set i y) := by
  intro x hx
  rcases List.mem_or_eq_of_mem_set hx with hx | rfl
  · exact h x hx
  · exact hy

theorem TabOk.swap {xs ys : List Int} (h : TabOk xs ys) : TabOk ys xs := ⟨⟨h.1.2, h.1.1⟩, h.2.symm⟩

structure P2 where
  a : Int
  b : Int

abbrev P2.v (g : P2) : AV := .tuple [.int .i64 g.a, .int .i64 g.b]

abbrev P2.lev (g : P2) : Prop := (0 ≤ g.a ∧ g.a ≤ 102) ∧ 0 ≤ g.b ∧ g.b ≤ 101

structure N4 where
  n : Int
  k : Int
  u : Int
  v : Int

abbrev N4.v' (g : N4) : AV := .tuple [.int .i64 g.n, .int .i64 g.k, .int .i64 g.u, .int .i64 g.v]

abbrev N4.ok (g : N4) : Prop := (0 ≤ g.n ∧ g.n ≤ 11) ∧ (-1 ≤ g.k ∧ g.k ≤ 11) ∧ (0 ≤ g.u ∧ g.u ≤ 14) ∧ (0 ≤ g.v ∧ g.v ≤ 13)

structure N3 where
  n : Int
  a : Int
  b : Int

abbrev N3.v (g : N3) : AV := .tuple [.int .i64 g.n, .int .i64 g.a, .int .i64 g.b]

abbrev N3.ok (g : N3) : Prop := (0 ≤ g.n ∧ g.n ≤ 11) ∧ (0 ≤ g.a ∧ g.a ≤ 102) ∧ 0 ≤ g.b ∧ g.b ≤ 101

structure N5 where
  n : Int
  k : Int
  v : Int
  a : Int
  b : Int

abbrev N5.v' (g : N5) : AV := .tuple [.int .i64 g.n, .int .i64 g.k, .int .i64 g.v, .int .i64 g.a, .int .i64 g.b]

abbrev N5.ok (g : N5) : Prop := (0 ≤ g.n ∧ g.n ≤ 11) ∧ (-1 ≤ g.k ∧ g.k ≤ 12) ∧ (0 ≤ g.v ∧ g.v ≤ 12) ∧ (0 ≤ g.a ∧ g.a ≤ 102) ∧ 0 ≤ g.b ∧ g.b ≤ 101

def qtTab : List (FuncId × (List AV → Option AV)) → FuncId → List AV → Option AV
  | [], _, _ => none
  | (g, d) :: r, f, args => if f = g then d args else qtTab r f args

abbrev FamOk (P : Program) (H : Heap) (f : FuncId) (d : List AV → Option AV) : Prop := ∀ args v, d args = some v → Callable P f ∧ ACalls P f args H fun r H' => r = v ∧ H' = H

theorem qtTab_nil {P : Program} {H : Heap} : QtOk P (qtTab []) H := fun f args r h => by simp [qtTab] at h

theorem qtTab_cons {P : Program} {H : Heap} {g : FuncId} {d : List AV → Option AV} {r : List (FuncId × (List AV → Option AV))} (h : FamOk P H g d) (hr : QtOk P (qtTab r) H) : QtOk P (qtTab ((g, d) :: r)) H := by
  intro f args v hv
  simp only [qtTab] at hv
  split at hv
  · rename_i e; subst e; exact h args v hv
  · exact hr f args v hv

structure GK5 where
  u : AV
  xs : List Int
  lev : Int
  kd : List UInt8

abbrev GK5.v (g : GK5) : AV := .tuple [g.u, .int .i64 g.lev, .str g.kd]

inductive Way | all | down | up | share

def Way.val : Way → Int → Int → Int → Int
  | .all, x, n, _ => x * n
  | .down, x, n, p => x * (n - p)
  | .up, x, n, p => x * (n - p)
  | .share, x, n, p => (x * n + p) / (p + 1)

theorem nth_ex {l : List Int} {v : Int} (h : v ∈ l) : ∃ m, m < l.length ∧ nth l m = v := by
  obtain ⟨m, h1, h2⟩ := List.getElem_of_mem h
  exact ⟨m, h1, by rw [nth_of h1]; exact h2⟩

theorem Bd.mono' {b c : Int} {xs : List Int} (h : Bd b xs) (hbc : b ≤ c) : Bd c xs := fun x hx => by have := h x hx; omega

def DrOk (p : List Int × List Int) (B : Nat) : Prop := p.2.length = p.1.length ∧ p.1.length ≤ B ∧ ∀ x ∈ p.2, 0 ≤ x ∧ x ≤ (B : Int)

theorem DrOk.mono {p : List Int × List Int} {B C : Nat} (h : DrOk p B) (hc : B ≤ C) : DrOk p C := ⟨h.1, by have := h.2.1; omega, fun x hx => by have := h.2.2 x hx; omega⟩

theorem grownRel {ι : Nat → Option Ref} {H : Heap} {w w' : World} (h : HRel ι H w) (hs : ∀ k, k < w.heap.size → w'.heap[k]? = w.heap[k]?) : HRel ι H w' := by
  refine ⟨h.fresh, fun id b hb => ?_, h.apart, fun id o hob => ?_, h.oapart, h.gl⟩
  · obtain ⟨r, hr, hB⟩ := h.blk id b hb
    refine ⟨r, hr, ?_⟩
    rcases hB.lt with h1 | h1
    · exact hB.keep (hs _ h1)
    · cases hrw : b.rw with
      | true => exact hB.keep (hs _ (h.row_lt hb hrw hr))
      | false =>
        unfold BlkRel
        rw [hrw]
        intro i a ha; rw [h1] at ha; simp at ha
  · obtain ⟨r, h1, h2⟩ := h.obs id o hob
    exact ⟨r, h1, h2.keep (hs _ (h.ob_lt hob h1))⟩

theorem ints_rel {ι : Nat → Option Ref} : ∀ ys : List Int, VRelL ι (ints ys) (ys.map (Value.int .i64))
  | [] => by simp [ints, VRelL]
  | y :: ys => by
    have := ints_rel (ι := ι) ys
    simp only [ints, List.map_cons, VRelL, VRel] at this ⊢
    exact ⟨_, _, rfl, rfl, this⟩

theorem ints_of {ι : Nat → Option Ref} : ∀ (ys : List Int) (vs : List Value), VRelL ι (ints ys) vs → vs = ys.map (Value.int .i64)
  | [], vs, h => by simpa [ints, VRelL] using h
  | y :: ys, vs, h => by
    simp only [ints, List.map_cons, VRelL, VRel] at h
    obtain ⟨v, r, rfl, rfl, h2⟩ := h
    rw [List.map_cons, ints_of ys r h2]

theorem merge_sort (xs : List Int) : (xs.mergeSort fun x y => decide (x ≤ y)) = sortL xs := by
  refine List.Perm.eq_of_pairwise (le := (· ≤ ·)) (fun a b _ _ h1 h2 => Int.le_antisymm h1 h2) ?_ (sortL_up _) ((List.mergeSort_perm _ _).trans (sortL_perm xs).symm)
  have := List.pairwise_mergeSort (le := fun x y : Int => decide (x ≤ y)) (fun a b c h1 h2 => by simp only [decide_eq_true_eq] at *; omega) (fun a b => by simp only [Bool.or_eq_true, decide_eq_true_eq]; omega) xs
  exact this.imp (fun h => by simpa using h)

theorem put_cells {d : List Int} {off : Nat} {c : Array Value} (h : off + d.length ≤ c.size) : ((Go.Sort.putCells (Value.int .i64) off d.toArray c).toList.drop off).take d.length = d.map (Value.int .i64) := by
  apply List.ext_getElem
  · simp [Go.Sort.putCells]; omega
  · intro i h1 h2
    simp only [List.length_map] at h2
    simp [Go.Sort.putCells, h2]

theorem sortAny_ok {A : Heap} {X : List Nat} {S S0 : Sig} {H : Heap} {v : AV} {xs : List Int} (hS : SOk A X S H.size H) (hs : Sel S (.rwI v xs.length xs) S0) (hl : xs.length < 4611686018427387904) :
    ACalls Try.prog fn_slices_Sort_ints [v] H fun r H' => ∃ g : Unit, r = .tuple [] ∧ SOk A X (.rwI v xs.length (sortL xs) :: S0) H'.size H' ∧ True := by
  by_cases h12 : xs.length ≤ 12
  · exact slicesSort_ok hS hs h12
  have hS' := hS.sel hs
  have hc := hS'.ch (.rwI v xs.length xs) (by simp)
  obtain ⟨hc1, hc2, hc3⟩ := hc
  simp only at hc1 hc2 hc3
  rcases hc3 with ⟨_, h0⟩ | ⟨id, rfl, hown, hg⟩
  · omega
  intro ι w us hh hu
  obtain ⟨val, r0, hus, hv, hr0⟩ := hu
  simp only [VRelL] at hr0; subst hr0
  simp only [VRel] at hv
  obtain ⟨r, a, c, hr, rfl, hnc, hcm, hcap, hplace⟩ := hv
  obtain ⟨rfl, hroom⟩ : a = ⟨r.row, r.off + 0, none⟩ ∧ 0 + c * 1 ≤ r.room := by
    rcases hplace with h | h
    · omega
    · exact h
  obtain ⟨r', hr', hB⟩ := hh.blk id _ hg
  rw [hr] at hr'; injection hr' with er; subst er
  unfold BlkRel at hB
  obtain ⟨cs, e, h1, h2, h3, h4⟩ := hB
  simp only [ints, List.length_map] at h3 h4
  have h5 := ints_of xs _ h4
  have hlt := (Array.getElem?_eq_some_iff.1 h1).1
  have hcell : ∀ j, j < xs.length → cs[r.off + j]? = some (.int .i64 (xs.toArray[j]!)) := by
    intro j hj
    have : (xs.map (Value.int .i64))[j]? = some (.int .i64 xs[j]) := by simp [hj]
    rw [← h5, List.getElem?_take_of_lt hj, List.getElem?_drop, Array.getElem?_toList] at this
    rw [this]
    simp [hj]
  have hholds : Go.Sort.Holds (Value.int .i64) w r.row r.off xs.toArray := by
    intro j hj
    simp only [List.size_toArray] at hj
    refine ⟨?_, ?_⟩
    · simp only [World.cell?, h1]
      simpa using hcell j hj
    · simp [World.frozen?, h1]
  obtain rfl : us = #[.slice (some ⟨r.row, r.off, none⟩) xs.length c] := by
    apply Array.ext'
    rw [hus]; simp
  refine (Any.slices_Sort_int sort_lays r.row r.off c xs w hholds hlt hl).mono ?_
  rintro en w' ⟨rfl, n, os, rfl⟩
  rw [merge_sort]
  have hsl := sortL_length xs
  have hg1 : (Go.Sort.putRow (Value.int .i64) (Go.Sort.ahead w n) r.row r.off (sortL xs).toArray).heap[r.row]? = some (.cells (Go.Sort.putCells (Value.int .i64) r.off (sortL xs).toArray cs) e (0, 0)) := by
    simp [Go.Sort.putRow, Go.Sort.mapBlock, Go.Sort.ahead, Array.getElem?_modify, h1, Go.Sort.onCells]
  have hsame : ∀ k, k ≠ r.row → (Go.Sort.putRow (Value.int .i64) (Go.Sort.ahead w n) r.row r.off (sortL xs).toArray).heap[k]? = w.heap[k]? := by
    intro k hk
    simp [Go.Sort.putRow, Go.Sort.mapBlock, Go.Sort.ahead, Array.getElem?_modify, Ne.symm hk]
  have hps : (Go.Sort.putCells (Value.int .i64) r.off (sortL xs).toArray cs).size = cs.size := by simp [Go.Sort.putCells]
  have hrel : HRel ι (H.put id (some ⟨true, ints (sortL xs)⟩)) (Go.Sort.putRow (Value.int .i64) (Go.Sort.ahead w n) r.row r.off (sortL xs).toArray) := by
    refine hh.rewrite hg rfl hr hg1 hsame (by rw [hps]; exact h2) (by simp only [ints, List.length_map]; omega) ?_
    have e1 : (ints (sortL xs)).length = (sortL xs).length := by simp [ints]
    rw [e1, put_cells (by omega)]
    exact ints_rel _
  have hsz : (Go.Sort.putRow (Value.int .i64) (Go.Sort.ahead w n) r.row r.off (sortL xs).toArray).heap.size = w.heap.size := by simp [Go.Sort.ahead]
  have hkeep : ∀ k, k < w.heap.size → (Go.Sort.grow (Go.Sort.putRow (Value.int .i64) (Go.Sort.ahead w n) r.row r.off (sortL xs).toArray) os).heap[k]? = (Go.Sort.putRow (Value.int .i64) (Go.Sort.ahead w n) r.row r.off (sortL xs).toArray).heap[k]? := by
    intro k hk
    simp only [Go.Sort.grow]
    rw [Array.getElem?_append_left (by rw [hsz]; exact hk)]
  refine ⟨.tuple [], .tuple #[], H.put id (some ⟨true, ints (sortL xs)⟩), ι, rfl, ⟨(), rfl, ?_, trivial⟩, by simp [VRel, VRelL], grownRel hrel (by rw [hsz]; exact hkeep), ?_⟩
  · refine hS'.mod rfl ?_ (Nat.le_refl _) hS.mh ?_ (.inl rfl)
    · intro id' _ hne
      rw [Heap.get_put, if_neg]
      intro e; subst e; exact hne rfl
    · exact ⟨hc1, by simp [ints, hsl], .inr ⟨id, rfl, hown, by simp [Heap.get_put]⟩⟩
  · have hx := HExt.rewrite (w' := Go.Sort.putRow (Value.int .i64) (Go.Sort.ahead w n) r.row r.off (sortL xs).toArray) (hh.id_lt hg) hg rfl hr (Nat.le_of_eq hsz.symm) rfl rfl rfl hsame (cs := ints (sortL xs))
    exact ⟨hx.le, hx.size, by simp only [Go.Sort.grow, Array.size_append]; rw [hsz]; omega, rfl, rfl, rfl, fun k hk g1 g2 => (hkeep k hk).trans (hx.rows k hk g1 g2), hx.news, hx.newo⟩

theorem sortedCopyB_ok {H : Heap} {a : AV} {xs : List Int} (ha : Ints H a xs) (hl : xs.length ≤ 1000000) :
    ACalls Try.prog fn_impl_sortedCopy [a] H fun r H' => OwnI H H' r (sortL xs) ∧ Le H H' := by
  refine code_impl_sortedCopy.go [.roI a xs.length xs] ⟨⟨rfl, ha⟩, trivial⟩ (by simp) ?_
  unfold mc_impl_sortedCopy
  (repeat (first | refine gst (hk := ?_) | (show GO _ _ _ _ _ (⟨some _, none, .call _ _⟩ :: _) _; first | (refine go_calln rfl code_slices_Clone_ints.callable (fun H hH => clone_ok (hH.ints (by exact Has.auto)) (by omega)) ?_; intro u) | (refine go_callg rfl code_slices_Sort_ints.callable (fun H hH => slicesSort_ok hH (by exact Sel.auto) (by omega)) ?_; intro g hg) | (refine go_callg rfl code_slices_Sort_ints.callable (fun H hH => sortAny_ok hH (by exact Sel.auto) (by omega)) ?_; intro g hg)) | (show GO _ _ _ _ _ (⟨some _, none, _⟩ :: _) _; first | refine go_op (hk := ?_) | (refine go_nw (hk := ?_); intro u; try simp only [llc, lln, lna, lza]) | (refine go_np (hk := ?_); intro id)) | (show GO _ _ _ _ _ (⟨none, none, _⟩ :: _) _; refine go_st (hk := ?_)) | (show GO _ _ _ _ _ (⟨_, some _, _⟩ :: _) _; first | refine go_in (hk := ?_) | refine go_out (hk := ?_) | refine go_void (hk := ?_)) | (show GK _ _ _ _ (blockK _ _ _); refine gk_past rfl ?_) | (show GC _ _ _ _ _ (.cond _ _ _) _; first | refine gc_yes (h1 := ?_) | refine gc_no (h1 := ?_))))
  refine gk_ret rfl fun H' hH => ?_
  unfold OwnI
  rw [sortL_length]
  exact hH.give .head

theorem implApart_ok {H : Heap} {x y : Int} (hx : -1000 ≤ x ∧ x ≤ 1000) (hy : -1000 ≤ y ∧ y ≤ 1000) : ACalls Try.prog fn_impl_apart [.int .i64 x, .int .i64 y] H fun r H' => r = .int .i64 (max (x - y) (y - x)) ∧ H' = H := by
  refine ACalls.val ?_ rfl
  refine code_impl_apart.go [] trivial (by simp) ?_
  unfold mc_impl_apart
  (repeat (first | refine gst (hk := ?_) | (show GO _ _ _ _ _ (⟨some _, none, _⟩ :: _) _; first | refine go_op (hk := ?_) | (refine go_nw (hk := ?_); intro u; try simp only [llc, lln, lna, lza]) | (refine go_np (hk := ?_); intro id)) | (show GO _ _ _ _ _ (⟨none, none, _⟩ :: _) _; refine go_st (hk := ?_)) | (show GO _ _ _ _ _ (⟨_, some _, _⟩ :: _) _; first | refine go_in (hk := ?_) | refine go_out (hk := ?_) | refine go_void (hk := ?_)) | (show GK _ _ _ _ (blockK _ _ _); refine gk_past rfl ?_) | (show GC _ _ _ _ _ (.cond _ _ _) _; first | refine gc_yes (h1 := ?_) | refine gc_no (h1 := ?_))))
  exact gk_ret rfl fun H' hH => ⟨rfl, hH.leE⟩

def FD (q : Rat) (D B : Int) : Prop := 0 < D ∧ ∃ k : Int, q * (D : Rat) = (k : Rat) ∧ -B ≤ k ∧ k ≤ B

theorem rat_inj {a b : Int} (h : (a : Rat) = (b : Rat)) : a = b := by
  have := congrArg Rat.num h
  simpa using this

theorem rat_nd (q : Rat) : q * ((q.den : Int) : Rat) = (q.num : Rat) := by
  have h := Rat.num_divInt_den q
  rw [Rat.divInt_eq_div] at h
  have hd : ((q.den : Int) : Rat) ≠ 0 := by
    intro h0
    have := rat_inj (a := q.den) (b := 0) h0
    have := q.den_nz
    omega
  have h1 := Rat.div_mul_cancel (a := (q.num : Rat)) hd
  rw [h] at h1
  exact h1

theorem rat_ne {a : Int} (h : a ≠ 0) : (a : Rat) ≠ 0 := fun h0 => h (rat_inj h0)

theorem FD.eqn {q : Rat} {D k : Int} (h : q * (D : Rat) = (k : Rat)) : q.num * D = k * q.den := by
  have h2 := rat_nd q
  have : ((q.num * D : Int) : Rat) = ((k * (q.den : Int) : Int) : Rat) := by
    rw [Rat.intCast_mul, Rat.intCast_mul, ← h, ← h2]; grind
  exact rat_inj this

theorem den_pos (q : Rat) : 1 ≤ (q.den : Int) := by have := q.den_nz; omega

theorem FD.dvd {q : Rat} {D B : Int} (h : FD q D B) : ∃ m : Int, 0 < m ∧ D = q.den * m ∧ -B ≤ q.num * m ∧ q.num * m ≤ B := by
  obtain ⟨hD, k, h1, h2, h3⟩ := h
  have he := FD.eqn h1
  have hd := den_pos q
  have hdv : (q.den : Int) ∣ D := by
    have h4 : (q.den : Int) ∣ q.num * D := ⟨k, by rw [he, Int.mul_comm]⟩
    have h5 : q.den ∣ q.num.natAbs * D.natAbs := by
      have := Int.natAbs_dvd_natAbs.2 h4
      rwa [Int.natAbs_mul, Int.natAbs_natCast] at this
    have h6 : q.den ∣ D.natAbs := (Nat.Coprime.symm q.reduced).dvd_of_dvd_mul_left h5
    exact Int.ofNat_dvd_left.2 h6
  obtain ⟨m, hm⟩ := hdv
  have hm0 : 0 < m := by
    rcases Int.lt_or_le 0 m with h5 | h5
    · exact h5
    · have := Int.mul_nonpos_of_nonneg_of_nonpos (a := (q.den : Int)) (b := m) (by omega) h5
      omega
  refine ⟨m, hm0, hm, ?_⟩
  have : q.num * m = k := by
    rw [hm] at he
    have h6 : (q.den : Int) * (q.num * m) = q.den * k := by rw [← Int.mul_assoc, Int.mul_comm (q.den : Int) q.num, Int.mul_assoc, he, Int.mul_comm]
    exact Int.eq_of_mul_eq_mul_left (by omega) h6
  omega

theorem mul_le_self {a m B : Int} (hm : 0 < m) (h : -B ≤ a * m ∧ a * m ≤ B) : -B ≤ a ∧ a ≤ B := by
  rcases Int.lt_or_le a 0 with h0 | h0
  · have := Int.mul_le_mul_of_nonneg_left (a := 1) (b := m) (c := -a) (by omega) (by omega)
    simp only [Int.neg_mul] at this
    omega
  · have := Int.mul_le_mul_of_nonneg_left (a := 1) (b := m) (c := a) (by omega) h0
    omega

theorem FD.nd {q : Rat} {D B : Int} (h : FD q D B) : (-B ≤ q.num ∧ q.num ≤ B) ∧ 1 ≤ (q.den : Int) ∧ (q.den : Int) ≤ D := by
  obtain ⟨m, h1, h2, h3⟩ := h.dvd
  have hd := den_pos q
  refine ⟨mul_le_self h1 h3, hd, ?_⟩
  have := Int.mul_le_mul_of_nonneg_left (a := 1) (b := m) (c := (q.den : Int)) (by omega) (by omega)
  omega

theorem FD.add {a b : Rat} {D A B : Int} (h : FD a D A) (h' : FD b D B) : FD (a + b) D (A + B) := by
  obtain ⟨hD, k, h1, h2, h3⟩ := h
  obtain ⟨_, l, h4, h5, h6⟩ := h'
  exact ⟨hD, k + l, by rw [Rat.intCast_add, ← h1, ← h4]; grind, by omega, by omega⟩

theorem FD.neg {a : Rat} {D A : Int} (h : FD a D A) : FD (-a) D A := by
  obtain ⟨hD, k, h1, h2, h3⟩ := h
  exact ⟨hD, -k, by rw [Rat.intCast_neg, ← h1]; grind, by omega, by omega⟩

theorem FD.sub {a b : Rat} {D A B : Int} (h : FD a D A) (h' : FD b D B) : FD (a - b) D (A + B) := by
  have := h.add h'.neg
  rwa [← Rat.sub_eq_add_neg] at this

theorem absmul {k l A B : Int} (h2 : -A ≤ k) (h3 : k ≤ A) (h5 : -B ≤ l) (h6 : l ≤ B) : -(A * B) ≤ k * l ∧ k * l ≤ A * B := by
  have hk : k.natAbs ≤ A.natAbs := by omega
  have hl : l.natAbs ≤ B.natAbs := by omega
  have h := Nat.mul_le_mul hk hl
  rw [← Int.natAbs_mul, ← Int.natAbs_mul] at h
  have h0 : 0 ≤ A * B := Int.mul_nonneg (by omega) (by omega)
  omega

theorem FD.mul {a b : Rat} {D E A B : Int} (h : FD a D A) (h' : FD b E B) : FD (a * b) (D * E) (A * B) := by
  obtain ⟨hD, k, h1, h2, h3⟩ := h
  obtain ⟨hE, l, h4, h5, h6⟩ := h'
  have := absmul h2 h3 h5 h6
  exact ⟨Int.mul_pos hD hE, k * l, by rw [Rat.intCast_mul, Rat.intCast_mul, ← h1, ← h4]; grind, this.1, this.2⟩

theorem FD.lift {a : Rat} {D A m : Int} (h : FD a D A) (hm : 0 < m) : FD a (D * m) (A * m) := by
  obtain ⟨hD, k, h1, h2, h3⟩ := h
  have hA : 0 ≤ A := by omega
  have := absmul h2 h3 (l := m) (B := m) (by omega) (by omega)
  exact ⟨Int.mul_pos hD hm, k * m, by rw [Rat.intCast_mul, Rat.intCast_mul, ← h1]; grind, this.1, this.2⟩

theorem FD.int {n B : Int} (h : -B ≤ n ∧ n ≤ B) : FD (n : Rat) 1 B := ⟨by omega, n, by simp, h.1, h.2⟩

theorem FD.mono {a : Rat} {D A B : Int} (h : FD a D A) (hb : A ≤ B) : FD a D B := by
  obtain ⟨hD, k, h1, h2, h3⟩ := h
  exact ⟨hD, k, h1, by omega, by omega⟩

theorem FD.div {n d B : Int} (hd : 0 < d) (h : -B ≤ n ∧ n ≤ B) : FD ((n : Rat) / (d : Rat)) d B := ⟨hd, n, Rat.div_mul_cancel (rat_ne (by omega)), h.1, h.2⟩

theorem FD.to {a : Rat} {D A D' : Int} (h : FD a D A) (hd : D = D') : FD a D' A := hd ▸ h

def sumR (f : Nat → Rat) : Nat → Rat
  | 0 => 0
  | n + 1 => sumR f n + f n

theorem sumR_congr {f g : Nat → Rat} : ∀ {n : Nat}, (∀ i, i < n → f i = g i) → sumR f n = sumR g n
  | 0, _ => rfl
  | n + 1, h => by rw [sumR, sumR, sumR_congr (fun i hi => h i (by omega)), h n (by omega)]

theorem sumR_mul (f : Nat → Rat) (c : Rat) : ∀ n, sumR (fun i => c * f i) n = c * sumR f n
  | 0 => by simp [sumR]
  | n + 1 => by rw [sumR, sumR, sumR_mul f c n]; grind

theorem sumR_add (f g : Nat → Rat) : ∀ n, sumR (fun i => f i + g i) n = sumR f n + sumR g n
  | 0 => by simp only [sumR]; grind
  | n + 1 => by rw [sumR, sumR, sumR, sumR_add f g n]; grind

/- the weighted middle -/

def frV (q : Rat) : AV := .agg [.int .i64 q.num, .int .i64 (q.den : Int)]

theorem tmod_gcd (a b : Int) : Int.gcd b (a.tmod b) = Int.gcd a b := by
  unfold Int.gcd
  rw [Int.natAbs_tmod, Nat.gcd_comm a.natAbs, Nat.gcd_rec b.natAbs a.natAbs, Nat.gcd_comm]

theorem div_num {a b : Int} (h : b ≠ 0) : ((a : Rat) / (b : Rat)).num = (b.sign * a).tdiv (Int.gcd a b : Nat) ∧ (((a : Rat) / (b : Rat)).den : Int) = (max b (-b)) / (Int.gcd a b : Nat) := by
  rw [← Rat.divInt_eq_div, Rat.num_divInt, Rat.den_divInt, if_neg h, Int.gcd_comm b a]
  have hg : (0 : Int) < (Int.gcd a b : Nat) := by
    have := Int.gcd_pos_of_ne_zero_right a h
    omega
  refine ⟨?_, ?_⟩
  · rw [Int.tdiv_eq_ediv_of_dvd]
    exact Int.dvd_mul_of_dvd_right (Int.gcd_dvd_left ..)
  · rw [Int.natCast_ediv]
    congr 1
    omega

theorem tdiv_in {a g B : Int} (h : -B ≤ a ∧ a ≤ B) : -B ≤ a.tdiv g ∧ a.tdiv g ≤ B := by
  have h1 : (a.tdiv g).natAbs ≤ a.natAbs := by rw [Int.natAbs_tdiv]; exact Nat.div_le_self _ _
  omega

theorem add_nd (p q : Rat) : ((p.num * (q.den : Int) + q.num * (p.den : Int) : Int) : Rat) / (((p.den : Int) * (q.den : Int) : Int) : Rat) = p + q := by
  have h1 := rat_nd p
  have h2 := rat_nd q
  have h3 : ((p.den : Int) : Rat) ≠ 0 := rat_ne (by have := den_pos p; omega)
  have h4 : ((q.den : Int) : Rat) ≠ 0 := rat_ne (by have := den_pos q; omega)
  rw [Rat.intCast_add, Rat.intCast_mul, Rat.intCast_mul, Rat.intCast_mul, ← h1, ← h2]
  generalize ((p.den : Int) : Rat) = x at *
  generalize ((q.den : Int) : Rat) = y at *
  grind

/-- the products that are reckoned fit -/
def FitA (p q : Rat) : Prop := (-2000000000000000000 ≤ p.num * (q.den : Int) ∧ p.num * (q.den : Int) ≤ 2000000000000000000) ∧ (-2000000000000000000 ≤ q.num * (p.den : Int) ∧ q.num * (p.den : Int) ≤ 2000000000000000000) ∧ (p.den : Int) * (q.den : Int) ≤ 4000000000000000000

theorem dd_pos (p q : Rat) : 1 ≤ (p.den : Int) * (q.den : Int) := by
  have h1 := den_pos p
  have h2 := den_pos q
  have := Int.mul_pos (show 0 < (p.den : Int) by omega) (show 0 < (q.den : Int) by omega)
  omega

theorem gc_drcs {P : Program} {A : Heap} {X : List Nat} {E : List (Nat × AV)} {S : Sig} {Q : Exit → St → Prop} {l : List MI} (Qt : Heap → FuncId → List AV → Option AV) (hq : ∀ H, SOk A X S H.size H → QtOk P (Qt H) H) (h : ∀ H, SOk A X S H.size H → GR P (Qt H) A X E S l (Q .normal)) : GC P A X E S (.drc l []) Q :=
  ⟨fun s hf => ⟨Qt s.H, hq s.H hf.ok, (h s.H hf.ok).g s [] hf⟩⟩

def RVs (A : Heap) (X : List Nat) (E : List (Nat × AV)) (S : Sig) (rs : List RV) (l : List AV) : Prop := ∀ s, Fit A X E S s → RV.all s rs = some l

theorem rvs_nil {A : Heap} {X : List Nat} {E : List (Nat × AV)} {S : Sig} : RVs A X E S [] [] := fun s _ => rfl

theorem rvs_c {A : Heap} {X : List Nat} {E : List (Nat × AV)} {S S0 : Sig} {rs : List RV} {l : List AV} {i n m es id : Nat} {ag : Bool} {cs : List AV} {v : AV} (hl : look E i = some (.ptr id 0)) (hs : Sel S ⟨.cell, .ptr id 0, es, m, cs⟩ S0) (hn : Nat.ble n cs.length = true) (hv : packC ag (cs.take n) = some v) (h : RVs A X E S rs l) : RVs A X E S (.c i n ag :: rs) (v :: l) := fun s hf => by
  have hc := (hf.ok.cellAt hs).1
  have e : RV.get s (.c i n ag) = some v := by
    simp only [RV.get, hf.env _ _ hl, Heap.read, hc]
    rw [if_pos (by have := Nat.le_of_ble_eq_true hn; omega)]
    simp only [List.drop_zero, hv]
  simp only [RV.all, e, h s hf]

theorem gk_rets {A : Heap} {X : List Nat} {E : List (Nat × AV)} {S : Sig} {rs : List RV} {l : List AV} {R : AV → Heap → Prop} (hr : RVs A X E S rs l) (h : ∀ H, SOk A X S H.size H → R (tupleOf l) H) : GK A X E S (retK rs R .ret) := by
  refine ⟨fun s hf => ?_⟩
  simp only [retK, hr s hf]
  exact h s.H hf.ok
/- families of fractions, in whatever memory -/

theorem fitA_of {p q : Rat} {D E A B : Int} (hp : FD p D A) (hq : FD q E B) (h1 : A * E ≤ 2000000000000000000) (h2 : B * D ≤ 2000000000000000000) (h3 : D * E ≤ 4000000000000000000) : FitA p q := by
  obtain ⟨a1, a2, a3⟩ := hp.nd
  obtain ⟨b1, b2, b3⟩ := hq.nd
  have m1 := absmul (k := p.num) (l := (q.den : Int)) (A := A) (B := E) (by omega) (by omega) (by omega) (by omega)
  have m2 := absmul (k := q.num) (l := (p.den : Int)) (A := B) (B := D) (by omega) (by omega) (by omega) (by omega)
  have m3 := absmul (k := (p.den : Int)) (l := (q.den : Int)) (A := D) (B := E) (by omega) (by omega) (by omega) (by omega)
  exact ⟨by omega, by omega, by omega⟩

theorem mulbd {a b A B : Int} (ha : 0 ≤ a) (hb : 0 ≤ b) (h1 : a ≤ A) (h2 : b ≤ B) : a * b ≤ A * B :=
  Int.le_trans (Int.mul_le_mul_of_nonneg_right h1 hb) (Int.mul_le_mul_of_nonneg_left h2 (by omega))

theorem FD.pos {q : Rat} {D B : Int} (h : FD q D B) : 0 < D ∧ 0 ≤ B := by
  obtain ⟨hD, k, h1, h2, h3⟩ := h
  exact ⟨hD, by omega⟩

/-- the slope, the height: of a common D -/
structure LineOk (s h : Rat) (D A B : Int) : Prop where
  s : FD s D A
  h : FD h D B
  d : D ≤ 1000000
  a : A ≤ 1000000000
  b : B ≤ 10000000000

theorem LineOk.mid {s h : Rat} {D A B : Int} (hl : LineOk s h D A B) {x : Int} (hx : -24 ≤ x ∧ x ≤ 24) : FD (s * (x : Rat)) D (A * 24) := (hl.s.mul (FD.int hx)).to (by omega)

theorem LineOk.over {s h : Rat} {D A B : Int} (hl : LineOk s h D A B) {x y : Int} (hx : -24 ≤ x ∧ x ≤ 24) (hy : -24 ≤ y ∧ y ≤ 24) : FD ((y : Rat) - (s * (x : Rat) + h)) D (24 * D + (A * 24 + B)) := by
  have h1 := ((FD.int hy).lift (m := D) hl.s.pos.1).to (D' := D) (by omega)
  exact h1.sub ((hl.mid hx).add hl.h)

def PtsT (xs ys : List Int) (n : Nat) : Prop := ∀ i, i < n → i < ys.length ∧ (-12 ≤ nth xs i ∧ nth xs i ≤ 12) ∧ (-12 ≤ nth ys i ∧ nth ys i ≤ 12)

def Pts (xs ys : List Int) : Prop := PtsT xs ys xs.length ∧ xs.length = ys.length ∧ xs.length ≤ 7

def Wide (xs : List Int) : Prop := ∃ i, 1 ≤ i ∧ i < xs.length ∧ nth xs i ≠ nth xs 0

def Cloud (xs ys : List Int) : Prop := Pts xs ys ∧ Wide xs

noncomputable instance (xs ys : List Int) : Decidable (Pts xs ys) := Classical.propDecidable _

noncomputable instance (xs : List Int) : Decidable (Wide xs) := Classical.propDecidable _

noncomputable instance (xs ys : List Int) : Decidable (Cloud xs ys) := Classical.propDecidable _

theorem PtsT.succ {xs ys : List Int} {i : Nat} (h : PtsT xs ys i) (h1 : i < ys.length) (h2 : -12 ≤ nth xs i ∧ nth xs i ≤ 12) (h3 : -12 ≤ nth ys i ∧ nth ys i ≤ 12) : PtsT xs ys (i + 1) := by
  intro k hk
  rcases Nat.lt_or_ge k i with h4 | h4
  · exact h k h4
  · rw [show k = i by omega]; exact ⟨h1, h2, h3⟩

def dotT (xs ys : List Int) : Nat → Int
  | 0 => 0
  | i + 1 => dotT xs ys i + nth xs i * nth ys i

def devT (xs : List Int) (c : Int) : Nat → Int
  | 0 => 0
  | i + 1 => devT xs c i + (nth xs i - c) * (nth xs i - c)

theorem devT_eq (xs : List Int) (c : Int) : ∀ k, devT xs c k = dotT xs xs k - 2 * c * sumI xs k + k * (c * c)
  | 0 => by simp [devT, dotT, sumI]
  | k + 1 => by
    have := devT_eq xs c k
    simp only [devT, dotT, sumI, Int.natCast_add, Int.natCast_one]
    grind

theorem sq_nonneg (a : Int) : 0 ≤ a * a := by
  rcases Int.le_total 0 a with h | h
  · exact Int.mul_nonneg h h
  · have := Int.mul_nonneg (a := -a) (b := -a) (by omega) (by omega)
    rw [Int.neg_mul_neg] at this; exact this

theorem sq_pos {a : Int} (h : a ≠ 0) : 1 ≤ a * a := by
  rcases Int.lt_or_le 0 a with h1 | h1
  · have := Int.mul_pos h1 h1; omega
  · have := Int.mul_pos (a := -a) (b := -a) (by omega) (by omega)
    rw [Int.neg_mul_neg] at this; omega

theorem devT_nonneg (xs : List Int) (c : Int) : ∀ k, 0 ≤ devT xs c k
  | 0 => Int.le_refl _
  | k + 1 => by
    have h1 := devT_nonneg xs c k
    have h2 := sq_nonneg (nth xs k - c)
    rw [devT]; omega

theorem devT_ge {xs : List Int} {c : Int} {i : Nat} : ∀ {k}, i < k → (nth xs i - c) * (nth xs i - c) ≤ devT xs c k
  | 0, h => by omega
  | k + 1, h => by
    have h1 := devT_nonneg xs c k
    have h2 := sq_nonneg (nth xs k - c)
    rw [devT]
    rcases Nat.lt_or_ge i k with h3 | h3
    · have := devT_ge (xs := xs) (c := c) h3; omega
    · rw [show i = k by omega]; omega

def delT (xs : List Int) (k : Nat) : Int := k * dotT xs xs k - sumI xs k * sumI xs k

theorem delT_succ (xs : List Int) (k : Nat) : delT xs (k + 1) = delT xs k + devT xs (nth xs k) k := by
  rw [devT_eq]
  simp only [delT, dotT, sumI, Int.natCast_add, Int.natCast_one]
  grind

theorem delT_nonneg (xs : List Int) : ∀ k, 0 ≤ delT xs k
  | 0 => by simp [delT, sumI]
  | k + 1 => by
    have h1 := delT_nonneg xs k
    have h2 := devT_nonneg xs (nth xs k) k
    rw [delT_succ]; omega

theorem delT_pos {xs : List Int} : ∀ {k i}, i < k → nth xs i ≠ nth xs 0 → 1 ≤ delT xs k
  | 0, i, h, _ => by omega
  | k + 1, i, h, hn => by
    have h1 := delT_nonneg xs k
    have h2 := devT_nonneg xs (nth xs k) k
    rw [delT_succ]
    rcases Nat.lt_or_ge i k with h3 | h3
    · have := delT_pos h3 hn; omega
    · have hi : i = k := by omega
      subst hi
      have h0 : 0 < i := by
        rcases Nat.eq_zero_or_pos i with h4 | h4
        · subst h4; exact absurd rfl hn
        · exact h4
      have h4 := devT_ge (xs := xs) (c := nth xs i) h0
      have h5 := sq_pos (a := nth xs 0 - nth xs i) (by omega)
      omega

theorem dotT_le {xs ys : List Int} {n : Nat} (h : PtsT xs ys n) : ∀ {k}, k ≤ n → -(144 * (k : Int)) ≤ dotT xs ys k ∧ dotT xs ys k ≤ 144 * (k : Int)
  | 0, _ => by simp [dotT]
  | k + 1, hk => by
    have h1 := dotT_le h (k := k) (by omega)
    obtain ⟨_, h2, h3⟩ := h k (by omega)
    have h4 := absmul h2.1 h2.2 h3.1 h3.2
    rw [dotT]; omega

theorem PtsT.xx {xs ys : List Int} {n : Nat} (h : PtsT xs ys n) (hx : n ≤ xs.length) : PtsT xs xs n := fun i hi => ⟨by omega, (h i hi).2.1, (h i hi).2.1⟩

/-- the line of least squares -/
def sqA (xs ys : List Int) : Rat := (((xs.length : Int) * dotT xs ys xs.length - sumL xs * sumL ys : Int) : Rat) / ((delT xs xs.length : Int) : Rat)

def sqB (xs ys : List Int) : Rat := ((sumL ys : Int) : Rat) / (((xs.length : Int)) : Rat) - sqA xs ys * (((sumL xs : Int) : Rat) / (((xs.length : Int)) : Rat))

structure SqF (xs ys : List Int) : Prop where
  n : 2 ≤ xs.length ∧ xs.length ≤ 7
  sx : -84 ≤ sumL xs ∧ sumL xs ≤ 84
  sy : -84 ≤ sumL ys ∧ sumL ys ≤ 84
  del : 1 ≤ delT xs xs.length ∧ delT xs xs.length ≤ 14112
  up : -14112 ≤ (xs.length : Int) * dotT xs ys xs.length - sumL xs * sumL ys ∧ (xs.length : Int) * dotT xs ys xs.length - sumL xs * sumL ys ≤ 14112
  p1 : -7056 ≤ (xs.length : Int) * dotT xs ys xs.length ∧ (xs.length : Int) * dotT xs ys xs.length ≤ 7056
  p2 : -7056 ≤ (xs.length : Int) * dotT xs xs xs.length ∧ (xs.length : Int) * dotT xs xs xs.length ≤ 7056
  p3 : -7056 ≤ sumL xs * sumL ys ∧ sumL xs * sumL ys ≤ 7056
  p4 : -7056 ≤ sumL xs * sumL xs ∧ sumL xs * sumL xs ≤ 7056
  e : delT xs xs.length = (xs.length : Int) * dotT xs xs xs.length - sumL xs * sumL xs
  line : LineOk (sqA xs ys) (sqB xs ys) (delT xs xs.length * (xs.length : Int)) 98784 2376108

theorem Pts.bd {xs ys : List Int} (h : Pts xs ys) : Bd 12 xs ∧ Bd 12 ys := by
  refine ⟨fun x hx => ?_, fun y hy => ?_⟩
  · obtain ⟨i, hi, rfl⟩ := List.mem_iff_getElem.1 hx
    have := (h.1 i hi).2.1
    rwa [nth_of hi] at this
  · obtain ⟨i, hi, rfl⟩ := List.mem_iff_getElem.1 hy
    have := (h.1 i (by have := h.2.1; omega)).2.2
    rwa [nth_of hi] at this

theorem Cloud.sq {xs ys : List Int} (h : Cloud xs ys) : SqF xs ys := by
  obtain ⟨hp, i, hi1, hi2, hi3⟩ := h
  obtain ⟨b1, b2⟩ := hp.bd
  have hlen := hp.2.1
  have h7 := hp.2.2
  have sx := sumL_le b1 (by omega)
  have sy := sumL_le b2 (by omega)
  have hd := delT_pos hi2 hi3
  have d1 := dotT_le hp.1 (Nat.le_refl _)
  have d2 := dotT_le (hp.1.xx (Nat.le_refl _)) (Nat.le_refl _)
  have m1 := absmul (k := (xs.length : Int)) (l := dotT xs ys xs.length) (A := 7) (B := 1008) (by omega) (by omega) (by omega) (by omega)
  have m2 := absmul (k := (xs.length : Int)) (l := dotT xs xs xs.length) (A := 7) (B := 1008) (by omega) (by omega) (by omega) (by omega)
  have m3 := absmul (k := sumL xs) (l := sumL ys) (A := 84) (B := 84) (by omega) (by omega) (by omega) (by omega)
  have m4 := absmul (k := sumL xs) (l := sumL xs) (A := 84) (B := 84) (by omega) (by omega) (by omega) (by omega)
  have e : delT xs xs.length = (xs.length : Int) * dotT xs xs xs.length - sumL xs * sumL xs := by rw [delT, sumI_all]
  have hup : -14112 ≤ (xs.length : Int) * dotT xs ys xs.length - sumL xs * sumL ys ∧ (xs.length : Int) * dotT xs ys xs.length - sumL xs * sumL ys ≤ 14112 := by omega
  have hdel : 1 ≤ delT xs xs.length ∧ delT xs xs.length ≤ 14112 := by omega
  have m5 := mulbd (a := delT xs xs.length) (b := (xs.length : Int)) (A := 14112) (B := 7) (by omega) (by omega) (by omega) (by omega)
  have f1 : FD (sqA xs ys) (delT xs xs.length) 14112 := FD.div (by omega) hup
  have f2 : FD (((sumL ys : Int) : Rat) / (((xs.length : Int)) : Rat)) (xs.length : Int) 84 := FD.div (by omega) (by omega)
  have f3 : FD (((sumL xs : Int) : Rat) / (((xs.length : Int)) : Rat)) (xs.length : Int) 84 := FD.div (by omega) (by omega)
  refine ⟨by omega, by omega, by omega, hdel, hup, by omega, by omega, by omega, by omega, e, ⟨(f1.lift (m := (xs.length : Int)) (by omega)).mono (by omega), ?_, by omega, by omega, by omega⟩⟩
  have f4 := ((f2.lift (m := delT xs xs.length) (by omega)).to (Int.mul_comm _ _)).sub (f1.mul f3)
  exact f4.mono (by omega)

abbrev cel0 (i : Nat) : Ch := ⟨.cell, .ptr i 0, 2, 1, [.int .i64 0, .int .i64 0]⟩

abbrev celF (i : Nat) (q : Rat) : Ch := ⟨.cell, .ptr i 0, 2, 1, [.int .i64 q.num, .int .i64 (q.den : Int)]⟩

def DifT (xs : List Int) (n : Nat) : Prop := ∀ i, i < n → ∀ k, k < i → nth xs i ≠ nth xs k

def Dif (xs : List Int) : Prop := DifT xs xs.length

noncomputable instance (xs : List Int) : Decidable (Dif xs) := Classical.propDecidable _

def CvOk (xs ys : List Int) : Prop := (Pts xs ys ∧ (1 ≤ (xs.length : Int) ∧ (xs.length : Int) ≤ 5)) ∧ Dif xs

noncomputable instance (xs ys : List Int) : Decidable (CvOk xs ys) := Classical.propDecidable _

theorem implApart0_ok {H : Heap} {x : Int} (hx : -4611686018427387904 ≤ x ∧ x ≤ 4611686018427387904) : ACalls Try.prog fn_impl_apart [.int .i64 x, .int .i64 0] H fun r H' => r = .int .i64 (max x (-x)) ∧ H' = H := by
  refine ACalls.val ?_ rfl
  refine code_impl_apart.go [] trivial (by simp) ?_
  unfold mc_impl_apart
  (repeat (first | refine gst (hk := ?_) | (show GO _ _ _ _ _ (⟨some _, none, _⟩ :: _) _; first | refine go_op (hk := ?_) | (refine go_nw (hk := ?_); intro u; try simp only [llc, lln, lna, lza]) | (refine go_np (hk := ?_); intro id)) | (show GO _ _ _ _ _ (⟨none, none, _⟩ :: _) _; refine go_st (hk := ?_)) | (show GO _ _ _ _ _ (⟨_, some _, _⟩ :: _) _; first | refine go_in (hk := ?_) | refine go_out (hk := ?_) | refine go_void (hk := ?_)) | (show GK _ _ _ _ (blockK _ _ _); refine gk_past rfl ?_) | (show GC _ _ _ _ _ (.cond _ _ _) _; first | refine gc_yes (h1 := ?_) | refine gc_no (h1 := ?_))))
  exact gk_ret rfl fun H' hH => ⟨by show AV.int _ (max (x - 0) (0 - x)) = _; congr 1; omega, hH.leE⟩

theorem commonFactor_ok {H : Heap} {a b : Int} (ha : -4611686018427387904 ≤ a ∧ a ≤ 4611686018427387904) (hb : -4611686018427387904 ≤ b ∧ b ≤ 4611686018427387904) :
    ACalls Try.prog fn_impl_commonFactor [.int .i64 a, .int .i64 b] H fun r H' => r = .int .i64 (Int.gcd a b : Nat) ∧ H' = H := by
  refine ACalls.val ?_ rfl
  refine code_impl_commonFactor.go [] trivial (by simp) ?_
  unfold mc_impl_commonFactor
  (repeat (first | refine gst (hk := ?_) | (with_reducible refine gc_drq ?_; intro _) | (show GO _ _ _ _ _ (⟨some _, none, _⟩ :: _) _; first | refine go_op (hk := ?_) | (refine go_nw (hk := ?_); intro u; try simp only [llc, lln, lna, lza]) | (refine go_np (hk := ?_); intro id)) | (show GQ _ _ _ _ _ _ _ (⟨some _, none, _⟩ :: _) _; first | refine gq_op (hk := ?_) | (refine gq_nw (hk := ?_); intro u; try simp only [llc, lln, lna, lza])) | (show GO _ _ _ _ _ (⟨none, none, _⟩ :: _) _; refine go_st (hk := ?_)) | (show GO _ _ _ _ _ (⟨_, some _, _⟩ :: _) _; first | refine go_in (hk := ?_) | refine go_out (hk := ?_) | refine go_void (hk := ?_)) | (show GQ _ _ _ _ _ _ _ (⟨_, some _, _⟩ :: _) _; first | refine gq_in (hk := ?_) | refine gq_out (hk := ?_) | refine gq_void (hk := ?_)) | (show GK _ _ _ _ (blockK _ _ _); refine gk_past rfl ?_) | (show GC _ _ _ _ _ (.cond _ _ _) _; first | refine gc_yes (h1 := ?_) | refine gc_no (h1 := ?_))))
  refine gc_loop (γ := Int × Int) (fun t => [(0, .int .i64 t.1), (1, .int .i64 t.2)]) (fun _ => []) (fun t => Int.gcd t.1 t.2 = Int.gcd a b ∧ (-4611686018427387904 ≤ t.1 ∧ t.1 ≤ 4611686018427387904) ∧ (-4611686018427387904 ≤ t.2 ∧ t.2 ≤ 4611686018427387904)) (fun t => t.2.natAbs) (a, b) ⟨rfl, ha, hb⟩ (hb := ?_)
  rintro ⟨x, y⟩ ⟨h1, h2, h3⟩ I ν m hk
  simp only at h1 h2 h3 hk ⊢
  (repeat (first | refine gst (hk := ?_) | (with_reducible refine gc_drq ?_; intro _) | (show GO _ _ _ _ _ (⟨some _, none, _⟩ :: _) _; first | refine go_op (hk := ?_) | (refine go_nw (hk := ?_); intro u; try simp only [llc, lln, lna, lza]) | (refine go_np (hk := ?_); intro id)) | (show GQ _ _ _ _ _ _ _ (⟨some _, none, _⟩ :: _) _; first | refine gq_op (hk := ?_) | (refine gq_nw (hk := ?_); intro u; try simp only [llc, lln, lna, lza])) | (show GO _ _ _ _ _ (⟨none, none, _⟩ :: _) _; refine go_st (hk := ?_)) | (show GO _ _ _ _ _ (⟨_, some _, _⟩ :: _) _; first | refine go_in (hk := ?_) | refine go_out (hk := ?_) | refine go_void (hk := ?_)) | (show GQ _ _ _ _ _ _ _ (⟨_, some _, _⟩ :: _) _; first | refine gq_in (hk := ?_) | refine gq_out (hk := ?_) | refine gq_void (hk := ?_)) | (show GK _ _ _ _ (blockK _ _ _); refine gk_past rfl ?_) | (show GC _ _ _ _ _ (.cond _ _ _) _; first | refine gc_yes (h1 := ?_) | refine gc_no (h1 := ?_))))
  refine gc_cond rfl (fun h => ?_) (fun h => ?_)
  · have h4 : (x.tmod y).natAbs < y.natAbs := by
      rw [Int.natAbs_tmod]; exact Nat.mod_lt _ (by omega)
    (repeat (first | refine gst (hk := ?_) | (with_reducible refine gc_drq ?_; intro _) | (show GO _ _ _ _ _ (⟨some _, none, _⟩ :: _) _; first | refine go_op (hk := ?_) | (refine go_nw (hk := ?_); intro u; try simp only [llc, lln, lna, lza]) | (refine go_np (hk := ?_); intro id)) | (show GQ _ _ _ _ _ _ _ (⟨some _, none, _⟩ :: _) _; first | refine gq_op (hk := ?_) | (refine gq_nw (hk := ?_); intro u; try simp only [llc, lln, lna, lza])) | (show GO _ _ _ _ _ (⟨none, none, _⟩ :: _) _; refine go_st (hk := ?_)) | (show GO _ _ _ _ _ (⟨_, some _, _⟩ :: _) _; first | refine go_in (hk := ?_) | refine go_out (hk := ?_) | refine go_void (hk := ?_)) | (show GQ _ _ _ _ _ _ _ (⟨_, some _, _⟩ :: _) _; first | refine gq_in (hk := ?_) | refine gq_out (hk := ?_) | refine gq_void (hk := ?_)) | (show GK _ _ _ _ (blockK _ _ _); refine gk_past rfl ?_) | (show GC _ _ _ _ _ (.cond _ _ _) _; first | refine gc_yes (h1 := ?_) | refine gc_no (h1 := ?_))))
    refine gq_is rfl (stp_rem rfl rfl h) ?_
    (repeat (first | refine gst (hk := ?_) | (with_reducible refine gc_drq ?_; intro _) | (show GO _ _ _ _ _ (⟨some _, none, _⟩ :: _) _; first | refine go_op (hk := ?_) | (refine go_nw (hk := ?_); intro u; try simp only [llc, lln, lna, lza]) | (refine go_np (hk := ?_); intro id)) | (show GQ _ _ _ _ _ _ _ (⟨some _, none, _⟩ :: _) _; first | refine gq_op (hk := ?_) | (refine gq_nw (hk := ?_); intro u; try simp only [llc, lln, lna, lza])) | (show GO _ _ _ _ _ (⟨none, none, _⟩ :: _) _; refine go_st (hk := ?_)) | (show GO _ _ _ _ _ (⟨_, some _, _⟩ :: _) _; first | refine go_in (hk := ?_) | refine go_out (hk := ?_) | refine go_void (hk := ?_)) | (show GQ _ _ _ _ _ _ _ (⟨_, some _, _⟩ :: _) _; first | refine gq_in (hk := ?_) | refine gq_out (hk := ?_) | refine gq_void (hk := ?_)) | (show GK _ _ _ _ (blockK _ _ _); refine gk_past rfl ?_) | (show GC _ _ _ _ _ (.cond _ _ _) _; first | refine gc_yes (h1 := ?_) | refine gc_no (h1 := ?_))))
    exact gk_next (hk (y, x.tmod y) ⟨by rw [tmod_gcd]; exact h1, h3, by simp only; omega⟩ h4)
  · have hy : y = 0 := by omega
    subst hy
    have e : (Int.gcd a b : Nat) = x.natAbs := by rw [← h1]; simp [Int.gcd]
    (repeat (first | refine gst (hk := ?_) | (with_reducible refine gc_drq ?_; intro _) | (show GO _ _ _ _ _ (⟨some _, none, _⟩ :: _) _; first | refine go_op (hk := ?_) | (refine go_nw (hk := ?_); intro u; try simp only [llc, lln, lna, lza]) | (refine go_np (hk := ?_); intro id)) | (show GQ _ _ _ _ _ _ _ (⟨some _, none, _⟩ :: _) _; first | refine gq_op (hk := ?_) | (refine gq_nw (hk := ?_); intro u; try simp only [llc, lln, lna, lza])) | (show GO _ _ _ _ _ (⟨none, none, _⟩ :: _) _; refine go_st (hk := ?_)) | (show GO _ _ _ _ _ (⟨_, some _, _⟩ :: _) _; first | refine go_in (hk := ?_) | refine go_out (hk := ?_) | refine go_void (hk := ?_)) | (show GQ _ _ _ _ _ _ _ (⟨_, some _, _⟩ :: _) _; first | refine gq_in (hk := ?_) | refine gq_out (hk := ?_) | refine gq_void (hk := ?_)) | (show GK _ _ _ _ (blockK _ _ _); refine gk_past rfl ?_) | (show GC _ _ _ _ _ (.cond _ _ _) _; first | refine gc_yes (h1 := ?_) | refine gc_no (h1 := ?_))))
    refine go_callp rfl code_impl_apart.callable (fun H hH => implApart0_ok h2) ?_
    (repeat (first | refine gst (hk := ?_) | (with_reducible refine gc_drq ?_; intro _) | (show GO _ _ _ _ _ (⟨some _, none, _⟩ :: _) _; first | refine go_op (hk := ?_) | (refine go_nw (hk := ?_); intro u; try simp only [llc, lln, lna, lza]) | (refine go_np (hk := ?_); intro id)) | (show GQ _ _ _ _ _ _ _ (⟨some _, none, _⟩ :: _) _; first | refine gq_op (hk := ?_) | (refine gq_nw (hk := ?_); intro u; try simp only [llc, lln, lna, lza])) | (show GO _ _ _ _ _ (⟨none, none, _⟩ :: _) _; refine go_st (hk := ?_)) | (show GO _ _ _ _ _ (⟨_, some _, _⟩ :: _) _; first | refine go_in (hk := ?_) | refine go_out (hk := ?_) | refine go_void (hk := ?_)) | (show GQ _ _ _ _ _ _ _ (⟨_, some _, _⟩ :: _) _; first | refine gq_in (hk := ?_) | refine gq_out (hk := ?_) | refine gq_void (hk := ?_)) | (show GK _ _ _ _ (blockK _ _ _); refine gk_past rfl ?_) | (show GC _ _ _ _ _ (.cond _ _ _) _; first | refine gc_yes (h1 := ?_) | refine gc_no (h1 := ?_))))
    exact gk_ret rfl fun H' hH => ⟨by rw [e]; show AV.int _ (max x (-x)) = _; congr 1; omega, hH.leE⟩

theorem tdiv_negneg {a g : Int} (h : 0 < g) : a.tdiv (-g) = (-a).tdiv g := by
  rw [Int.tdiv_neg, Int.neg_tdiv]

theorem lowest_ok {H : Heap} {a b : Int} (ha : -4611686018427387904 ≤ a ∧ a ≤ 4611686018427387904) (hb : -4611686018427387904 ≤ b ∧ b ≤ 4611686018427387904) (h0 : b ≠ 0) :
    ACalls Try.prog fn_impl_lowest [.int .i64 a, .int .i64 b] H fun r H' => r = frV ((a : Rat) / (b : Rat)) ∧ H' = H := by
  refine ACalls.val ?_ rfl
  have hg : (0 : Int) < (Int.gcd a b : Nat) := by
    have := Int.gcd_pos_of_ne_zero_right a h0
    omega
  have hg2 : (Int.gcd a b : Nat) ≤ b.natAbs := Nat.le_of_dvd (by omega) (Int.gcd_dvd_natAbs_right a b)
  obtain ⟨e1, e2⟩ := div_num (a := a) h0
  refine code_impl_lowest.go [] trivial (by simp) ?_
  unfold mc_impl_lowest
  (repeat (first | refine gst (hk := ?_) | (with_reducible first | (refine gc_drw (h := ?_); intro _) | (refine gc_drw2 (h := ?_); intro _)) | (show GO _ _ _ _ _ (⟨some _, none, _⟩ :: _) _; first | refine go_op (hk := ?_) | (refine go_nw (hk := ?_); intro u; try simp only [llc, lln, lna, lza]) | (refine go_np (hk := ?_); intro id)) | (show GD _ _ _ _ _ _ _ (⟨some _, none, _⟩ :: _) _; first | refine gd_op (hk := ?_) | (refine gd_nw (hk := ?_); intro u; try simp only [llc, lln, lna, lza])) | (show GD2 _ _ _ _ _ _ _ _ _ _ _ _ _ _; first | refine gd2_nil rfl ?_ | refine gd2_op (hk := ?_) | (refine gd2_nw (hk := ?_); intro u; try simp only [llc, lln, lna, lza]) | refine gd2_l (hk := ?_) | refine gd2_lp (hk := ?_) | (refine gd2_newp (hk := ?_); intro id) | refine gd2_st (hk := ?_) | (refine gd2_bsl rfl rfl ?_; intro u; try simp only [llc, lln, lna, lza]) | (refine gd2_a (hk := ?_); intro u; try simp only [llc, lln, lna, lza])) | (show GO _ _ _ _ _ (⟨none, none, _⟩ :: _) _; refine go_st (hk := ?_)) | (show GD _ _ _ _ _ _ _ (⟨none, none, _⟩ :: _) _; refine gd_st (hk := ?_)) | (show GO _ _ _ _ _ (⟨_, some _, _⟩ :: _) _; first | refine go_in (hk := ?_) | refine go_out (hk := ?_) | refine go_void (hk := ?_)) | (show GK _ _ _ _ (blockK _ _ _); refine gk_past rfl ?_) | (show GC _ _ _ _ _ (.cond _ _ _) _; first | refine gc_yes (h1 := ?_) | refine gc_no (h1 := ?_))))
  refine go_callp rfl code_impl_commonFactor.callable (fun H hH => commonFactor_ok (by omega) (by omega)) ?_
  (repeat (first | refine gst (hk := ?_) | (with_reducible first | (refine gc_drw (h := ?_); intro _) | (refine gc_drw2 (h := ?_); intro _)) | (show GO _ _ _ _ _ (⟨some _, none, _⟩ :: _) _; first | refine go_op (hk := ?_) | (refine go_nw (hk := ?_); intro u; try simp only [llc, lln, lna, lza]) | (refine go_np (hk := ?_); intro id)) | (show GD _ _ _ _ _ _ _ (⟨some _, none, _⟩ :: _) _; first | refine gd_op (hk := ?_) | (refine gd_nw (hk := ?_); intro u; try simp only [llc, lln, lna, lza])) | (show GD2 _ _ _ _ _ _ _ _ _ _ _ _ _ _; first | refine gd2_nil rfl ?_ | refine gd2_op (hk := ?_) | (refine gd2_nw (hk := ?_); intro u; try simp only [llc, lln, lna, lza]) | refine gd2_l (hk := ?_) | refine gd2_lp (hk := ?_) | (refine gd2_newp (hk := ?_); intro id) | refine gd2_st (hk := ?_) | (refine gd2_bsl rfl rfl ?_; intro u; try simp only [llc, lln, lna, lza]) | (refine gd2_a (hk := ?_); intro u; try simp only [llc, lln, lna, lza])) | (show GO _ _ _ _ _ (⟨none, none, _⟩ :: _) _; refine go_st (hk := ?_)) | (show GD _ _ _ _ _ _ _ (⟨none, none, _⟩ :: _) _; refine gd_st (hk := ?_)) | (show GO _ _ _ _ _ (⟨_, some _, _⟩ :: _) _; first | refine go_in (hk := ?_) | refine go_out (hk := ?_) | refine go_void (hk := ?_)) | (show GK _ _ _ _ (blockK _ _ _); refine gk_past rfl ?_) | (show GC _ _ _ _ _ (.cond _ _ _) _; first | refine gc_yes (h1 := ?_) | refine gc_no (h1 := ?_))))
  refine gc_cond rfl (fun h => ?_) (fun h => ?_)
  · have d1 := tdiv_in (a := -a) (g := (Int.gcd a b : Nat)) (B := 4611686018427387904) (by omega)
    have d2 := tdiv_in (a := -b) (g := (Int.gcd a b : Nat)) (B := 4611686018427387904) (by omega)
    rw [show b.sign = -1 from Int.sign_eq_neg_one_of_neg h] at e1
    rw [show max b (-b) = -b by omega] at e2
    rw [show (-1 : Int) * a = -a by omega] at e1
    rw [← tdiv_negneg hg] at d1 d2
    (repeat (first | refine gst (hk := ?_) | (with_reducible first | (refine gc_drw (h := ?_); intro _) | (refine gc_drw2 (h := ?_); intro _)) | (show GO _ _ _ _ _ (⟨some _, none, _⟩ :: _) _; first | refine go_op (hk := ?_) | (refine go_nw (hk := ?_); intro u; try simp only [llc, lln, lna, lza]) | (refine go_np (hk := ?_); intro id)) | (show GD _ _ _ _ _ _ _ (⟨some _, none, _⟩ :: _) _; first | refine gd_op (hk := ?_) | (refine gd_nw (hk := ?_); intro u; try simp only [llc, lln, lna, lza])) | (show GD2 _ _ _ _ _ _ _ _ _ _ _ _ _ _; first | refine gd2_nil rfl ?_ | refine gd2_op (hk := ?_) | (refine gd2_nw (hk := ?_); intro u; try simp only [llc, lln, lna, lza]) | refine gd2_l (hk := ?_) | refine gd2_lp (hk := ?_) | (refine gd2_newp (hk := ?_); intro id) | refine gd2_st (hk := ?_) | (refine gd2_bsl rfl rfl ?_; intro u; try simp only [llc, lln, lna, lza]) | (refine gd2_a (hk := ?_); intro u; try simp only [llc, lln, lna, lza])) | (show GO _ _ _ _ _ (⟨none, none, _⟩ :: _) _; refine go_st (hk := ?_)) | (show GD _ _ _ _ _ _ _ (⟨none, none, _⟩ :: _) _; refine gd_st (hk := ?_)) | (show GO _ _ _ _ _ (⟨_, some _, _⟩ :: _) _; first | refine go_in (hk := ?_) | refine go_out (hk := ?_) | refine go_void (hk := ?_)) | (show GK _ _ _ _ (blockK _ _ _); refine gk_past rfl ?_) | (show GC _ _ _ _ _ (.cond _ _ _) _; first | refine gc_yes (h1 := ?_) | refine gc_no (h1 := ?_))))
    refine gd_is rfl (stp_quo (a := a) (b := -((Int.gcd a b : Nat) : Int)) (by exact rfl) (by exact rfl) (by omega) (by omega)) ?_
    (repeat (first | refine gst (hk := ?_) | (with_reducible first | (refine gc_drw (h := ?_); intro _) | (refine gc_drw2 (h := ?_); intro _)) | (show GO _ _ _ _ _ (⟨some _, none, _⟩ :: _) _; first | refine go_op (hk := ?_) | (refine go_nw (hk := ?_); intro u; try simp only [llc, lln, lna, lza]) | (refine go_np (hk := ?_); intro id)) | (show GD _ _ _ _ _ _ _ (⟨some _, none, _⟩ :: _) _; first | refine gd_op (hk := ?_) | (refine gd_nw (hk := ?_); intro u; try simp only [llc, lln, lna, lza])) | (show GD2 _ _ _ _ _ _ _ _ _ _ _ _ _ _; first | refine gd2_nil rfl ?_ | refine gd2_op (hk := ?_) | (refine gd2_nw (hk := ?_); intro u; try simp only [llc, lln, lna, lza]) | refine gd2_l (hk := ?_) | refine gd2_lp (hk := ?_) | (refine gd2_newp (hk := ?_); intro id) | refine gd2_st (hk := ?_) | (refine gd2_bsl rfl rfl ?_; intro u; try simp only [llc, lln, lna, lza]) | (refine gd2_a (hk := ?_); intro u; try simp only [llc, lln, lna, lza])) | (show GO _ _ _ _ _ (⟨none, none, _⟩ :: _) _; refine go_st (hk := ?_)) | (show GD _ _ _ _ _ _ _ (⟨none, none, _⟩ :: _) _; refine gd_st (hk := ?_)) | (show GO _ _ _ _ _ (⟨_, some _, _⟩ :: _) _; first | refine go_in (hk := ?_) | refine go_out (hk := ?_) | refine go_void (hk := ?_)) | (show GK _ _ _ _ (blockK _ _ _); refine gk_past rfl ?_) | (show GC _ _ _ _ _ (.cond _ _ _) _; first | refine gc_yes (h1 := ?_) | refine gc_no (h1 := ?_))))
    refine gd_is rfl (stp_quo (a := b) (b := -((Int.gcd a b : Nat) : Int)) (by exact rfl) (by exact rfl) (by omega) (by omega)) ?_
    (repeat (first | refine gst (hk := ?_) | (with_reducible first | (refine gc_drw (h := ?_); intro _) | (refine gc_drw2 (h := ?_); intro _)) | (show GO _ _ _ _ _ (⟨some _, none, _⟩ :: _) _; first | refine go_op (hk := ?_) | (refine go_nw (hk := ?_); intro u; try simp only [llc, lln, lna, lza]) | (refine go_np (hk := ?_); intro id)) | (show GD _ _ _ _ _ _ _ (⟨some _, none, _⟩ :: _) _; first | refine gd_op (hk := ?_) | (refine gd_nw (hk := ?_); intro u; try simp only [llc, lln, lna, lza])) | (show GD2 _ _ _ _ _ _ _ _ _ _ _ _ _ _; first | refine gd2_nil rfl ?_ | refine gd2_op (hk := ?_) | (refine gd2_nw (hk := ?_); intro u; try simp only [llc, lln, lna, lza]) | refine gd2_l (hk := ?_) | refine gd2_lp (hk := ?_) | (refine gd2_newp (hk := ?_); intro id) | refine gd2_st (hk := ?_) | (refine gd2_bsl rfl rfl ?_; intro u; try simp only [llc, lln, lna, lza]) | (refine gd2_a (hk := ?_); intro u; try simp only [llc, lln, lna, lza])) | (show GO _ _ _ _ _ (⟨none, none, _⟩ :: _) _; refine go_st (hk := ?_)) | (show GD _ _ _ _ _ _ _ (⟨none, none, _⟩ :: _) _; refine gd_st (hk := ?_)) | (show GO _ _ _ _ _ (⟨_, some _, _⟩ :: _) _; first | refine go_in (hk := ?_) | refine go_out (hk := ?_) | refine go_void (hk := ?_)) | (show GK _ _ _ _ (blockK _ _ _); refine gk_past rfl ?_) | (show GC _ _ _ _ _ (.cond _ _ _) _; first | refine gc_yes (h1 := ?_) | refine gc_no (h1 := ?_))))
    exact gk_retc rfl (by exact Sel.auto) rfl rfl fun H' hH => ⟨by rw [tdiv_negneg hg, tdiv_negneg hg, frV, e1, e2, Int.tdiv_eq_ediv_of_nonneg (show 0 ≤ -b by omega)]; rfl, hH.leE⟩
  · have d1 := tdiv_in (a := a) (g := (Int.gcd a b : Nat)) (B := 4611686018427387904) (by omega)
    have d2 := tdiv_in (a := b) (g := (Int.gcd a b : Nat)) (B := 4611686018427387904) (by omega)
    rw [show b.sign = 1 from Int.sign_eq_one_of_pos (by omega)] at e1
    rw [show max b (-b) = b by omega] at e2
    rw [show (1 : Int) * a = a by omega] at e1
    (repeat (first | refine gst (hk := ?_) | (with_reducible first | (refine gc_drw (h := ?_); intro _) | (refine gc_drw2 (h := ?_); intro _)) | (show GO _ _ _ _ _ (⟨some _, none, _⟩ :: _) _; first | refine go_op (hk := ?_) | (refine go_nw (hk := ?_); intro u; try simp only [llc, lln, lna, lza]) | (refine go_np (hk := ?_); intro id)) | (show GD _ _ _ _ _ _ _ (⟨some _, none, _⟩ :: _) _; first | refine gd_op (hk := ?_) | (refine gd_nw (hk := ?_); intro u; try simp only [llc, lln, lna, lza])) | (show GD2 _ _ _ _ _ _ _ _ _ _ _ _ _ _; first | refine gd2_nil rfl ?_ | refine gd2_op (hk := ?_) | (refine gd2_nw (hk := ?_); intro u; try simp only [llc, lln, lna, lza]) | refine gd2_l (hk := ?_) | refine gd2_lp (hk := ?_) | (refine gd2_newp (hk := ?_); intro id) | refine gd2_st (hk := ?_) | (refine gd2_bsl rfl rfl ?_; intro u; try simp only [llc, lln, lna, lza]) | (refine gd2_a (hk := ?_); intro u; try simp only [llc, lln, lna, lza])) | (show GO _ _ _ _ _ (⟨none, none, _⟩ :: _) _; refine go_st (hk := ?_)) | (show GD _ _ _ _ _ _ _ (⟨none, none, _⟩ :: _) _; refine gd_st (hk := ?_)) | (show GO _ _ _ _ _ (⟨_, some _, _⟩ :: _) _; first | refine go_in (hk := ?_) | refine go_out (hk := ?_) | refine go_void (hk := ?_)) | (show GK _ _ _ _ (blockK _ _ _); refine gk_past rfl ?_) | (show GC _ _ _ _ _ (.cond _ _ _) _; first | refine gc_yes (h1 := ?_) | refine gc_no (h1 := ?_))))
    refine gd_is rfl (stp_quo (a := a) (b := ((Int.gcd a b : Nat) : Int)) (by exact rfl) (by exact rfl) (by omega) (by omega)) ?_
    (repeat (first | refine gst (hk := ?_) | (with_reducible first | (refine gc_drw (h := ?_); intro _) | (refine gc_drw2 (h := ?_); intro _)) | (show GO _ _ _ _ _ (⟨some _, none, _⟩ :: _) _; first | refine go_op (hk := ?_) | (refine go_nw (hk := ?_); intro u; try simp only [llc, lln, lna, lza]) | (refine go_np (hk := ?_); intro id)) | (show GD _ _ _ _ _ _ _ (⟨some _, none, _⟩ :: _) _; first | refine gd_op (hk := ?_) | (refine gd_nw (hk := ?_); intro u; try simp only [llc, lln, lna, lza])) | (show GD2 _ _ _ _ _ _ _ _ _ _ _ _ _ _; first | refine gd2_nil rfl ?_ | refine gd2_op (hk := ?_) | (refine gd2_nw (hk := ?_); intro u; try simp only [llc, lln, lna, lza]) | refine gd2_l (hk := ?_) | refine gd2_lp (hk := ?_) | (refine gd2_newp (hk := ?_); intro id) | refine gd2_st (hk := ?_) | (refine gd2_bsl rfl rfl ?_; intro u; try simp only [llc, lln, lna, lza]) | (refine gd2_a (hk := ?_); intro u; try simp only [llc, lln, lna, lza])) | (show GO _ _ _ _ _ (⟨none, none, _⟩ :: _) _; refine go_st (hk := ?_)) | (show GD _ _ _ _ _ _ _ (⟨none, none, _⟩ :: _) _; refine gd_st (hk := ?_)) | (show GO _ _ _ _ _ (⟨_, some _, _⟩ :: _) _; first | refine go_in (hk := ?_) | refine go_out (hk := ?_) | refine go_void (hk := ?_)) | (show GK _ _ _ _ (blockK _ _ _); refine gk_past rfl ?_) | (show GC _ _ _ _ _ (.cond _ _ _) _; first | refine gc_yes (h1 := ?_) | refine gc_no (h1 := ?_))))
    exact gk_retc rfl (by exact Sel.auto) rfl rfl fun H' hH => ⟨by rw [frV, e1, e2]; rfl, hH.leE⟩

theorem implWhole_ok {H : Heap} {n : Int} : ACalls Try.prog fn_impl_whole [.int .i64 n] H fun r H' => r = frV (n : Rat) ∧ H' = H := by
  refine ACalls.val ?_ rfl
  refine code_impl_whole.go [] trivial (by simp) ?_
  unfold mc_impl_whole
  (repeat (first | refine gst (hk := ?_) | (show GO _ _ _ _ _ (⟨some _, none, _⟩ :: _) _; first | refine go_op (hk := ?_) | (refine go_nw (hk := ?_); intro u; try simp only [llc, lln, lna, lza]) | (refine go_np (hk := ?_); intro id)) | (show GO _ _ _ _ _ (⟨none, none, _⟩ :: _) _; refine go_st (hk := ?_)) | (show GO _ _ _ _ _ (⟨_, some _, _⟩ :: _) _; first | refine go_in (hk := ?_) | refine go_out (hk := ?_) | refine go_void (hk := ?_)) | (show GK _ _ _ _ (blockK _ _ _); refine gk_past rfl ?_) | (show GC _ _ _ _ _ (.cond _ _ _) _; first | refine gc_yes (h1 := ?_) | refine gc_no (h1 := ?_))))
  exact gk_retc rfl (by exact Sel.auto) rfl rfl fun H' hH => ⟨rfl, hH.leE⟩

theorem implPlus_ok {H : Heap} {p q : Rat} (hf : FitA p q) :
    ACalls Try.prog fn_impl_Frac_plus [frV p, frV q] H fun r H' => r = frV (p + q) ∧ H' = H := by
  refine ACalls.val ?_ rfl
  obtain ⟨h1, h2, h3⟩ := hf
  have h4 := dd_pos p q
  unfold frV
  refine code_impl_Frac_plus.go [] trivial (by simp) ?_
  unfold mc_impl_Frac_plus
  (repeat (first | refine gst (hk := ?_) | (show GO _ _ _ _ _ (⟨some _, none, _⟩ :: _) _; first | refine go_op (hk := ?_) | (refine go_nw (hk := ?_); intro u; try simp only [llc, lln, lna, lza]) | (refine go_np (hk := ?_); intro id)) | (show GO _ _ _ _ _ (⟨none, none, _⟩ :: _) _; refine go_st (hk := ?_)) | (show GO _ _ _ _ _ (⟨_, some _, _⟩ :: _) _; first | refine go_in (hk := ?_) | refine go_out (hk := ?_) | refine go_void (hk := ?_)) | (show GK _ _ _ _ (blockK _ _ _); refine gk_past rfl ?_) | (show GC _ _ _ _ _ (.cond _ _ _) _; first | refine gc_yes (h1 := ?_) | refine gc_no (h1 := ?_))))
  refine go_callp rfl code_impl_lowest.callable (fun H hH => lowest_ok (by omega) (by omega) (by omega)) ?_
  rw [add_nd]
  (repeat (first | refine gst (hk := ?_) | (show GO _ _ _ _ _ (⟨some _, none, _⟩ :: _) _; first | refine go_op (hk := ?_) | (refine go_nw (hk := ?_); intro u; try simp only [llc, lln, lna, lza]) | (refine go_np (hk := ?_); intro id)) | (show GO _ _ _ _ _ (⟨none, none, _⟩ :: _) _; refine go_st (hk := ?_)) | (show GO _ _ _ _ _ (⟨_, some _, _⟩ :: _) _; first | refine go_in (hk := ?_) | refine go_out (hk := ?_) | refine go_void (hk := ?_)) | (show GK _ _ _ _ (blockK _ _ _); refine gk_past rfl ?_) | (show GC _ _ _ _ _ (.cond _ _ _) _; first | refine gc_yes (h1 := ?_) | refine gc_no (h1 := ?_))))
  exact gk_retc rfl (by exact Sel.auto) rfl rfl fun H' hH => ⟨rfl, hH.leE⟩

/-- which fraction is less: -1, 0, 1 -/
def cmR (p q : Rat) : Int := sgn (p.num * (q.den : Int) - q.num * (p.den : Int))

theorem cmR_neg {p q : Rat} : cmR p q < 0 ↔ p < q := by
  rw [Rat.lt_iff]; unfold cmR sgn
  split
  · omega
  · split <;> omega

theorem cmR_pos {p q : Rat} : 0 < cmR p q ↔ q < p := by
  rw [Rat.lt_iff]; unfold cmR sgn
  split
  · omega
  · split <;> omega

theorem implCompare_ok {H : Heap} {p q : Rat} (hf : FitA p q) :
    ACalls Try.prog fn_impl_Frac_compare [frV p, frV q] H fun r H' => r = .int .i64 (cmR p q) ∧ H' = H := by
  refine ACalls.val ?_ rfl
  obtain ⟨h1, h2, h3⟩ := hf
  unfold frV
  refine code_impl_Frac_compare.go [] trivial (by simp) ?_
  unfold mc_impl_Frac_compare
  (repeat (first | refine gst (hk := ?_) | (refine gq_call rfl (fun _ => qtCmp_is) ?_) | (show GO _ _ _ _ _ (⟨some _, none, _⟩ :: _) _; first | refine go_op (hk := ?_) | (refine go_nw (hk := ?_); intro u; try simp only [llc, lln, lna, lza]) | (refine go_np (hk := ?_); intro id)) | (show GO _ _ _ _ _ (⟨none, none, _⟩ :: _) _; refine go_st (hk := ?_)) | (show GO _ _ _ _ _ (⟨_, some _, _⟩ :: _) _; first | refine go_in (hk := ?_) | refine go_out (hk := ?_) | refine go_void (hk := ?_)) | (show GK _ _ _ _ (blockK _ _ _); refine gk_past rfl ?_) | (show GC _ _ _ _ _ (.cond _ _ _) _; first | refine gc_yes (h1 := ?_) | refine gc_no (h1 := ?_))))
  refine go_callp rfl code_cmp_Compare_int.callable (fun H hH => compare_ok) ?_
  (repeat (first | refine gst (hk := ?_) | (refine gq_call rfl (fun _ => qtCmp_is) ?_) | (show GO _ _ _ _ _ (⟨some _, none, _⟩ :: _) _; first | refine go_op (hk := ?_) | (refine go_nw (hk := ?_); intro u; try simp only [llc, lln, lna, lza]) | (refine go_np (hk := ?_); intro id)) | (show GO _ _ _ _ _ (⟨none, none, _⟩ :: _) _; refine go_st (hk := ?_)) | (show GO _ _ _ _ _ (⟨_, some _, _⟩ :: _) _; first | refine go_in (hk := ?_) | refine go_out (hk := ?_) | refine go_void (hk := ?_)) | (show GK _ _ _ _ (blockK _ _ _); refine gk_past rfl ?_) | (show GC _ _ _ _ _ (.cond _ _ _) _; first | refine gc_yes (h1 := ?_) | refine gc_no (h1 := ?_))))
  exact gk_ret rfl fun H' hH => ⟨rfl, hH.leE⟩

def nthA {α : Type} (d : α) (L : List α) (i : Nat) : α := L.getD i d

theorem nthA_of {α : Type} {d : α} {L : List α} {i : Nat} (h : i < L.length) : nthA d L i = L[i] := by
  unfold nthA
  rw [List.getD_eq_getElem?_getD, List.getElem?_eq_getElem h]; rfl

def tabS {α : Type} (n : Nat) (f : Nat → α) : List α := (List.range n).map f

theorem tabS_len {α : Type} (n : Nat) (f : Nat → α) : (tabS n f).length = n := by simp [tabS]

theorem tabS_nth {α : Type} {d : α} {n : Nat} {f : Nat → α} {i : Nat} (h : i < n) : nthA d (tabS n f) i = f i := by
  rw [nthA_of (by rw [tabS_len]; exact h)]
  simp [tabS]

theorem tabS_set {α : Type} {n i : Nat} {f : Nat → α} {x : α} : (tabS n f).set i x = tabS n fun k => if k = i then x else f k := by
  apply List.ext_getElem
  · simp [tabS]
  · intro k h1 h2
    rw [List.getElem_set]
    simp only [tabS, List.getElem_map, List.getElem_range]
    by_cases h : i = k
    · subst h; simp
    · rw [if_neg h, if_neg (fun e => h e.symm)]

theorem tabS_congr {α : Type} {n : Nat} {f g : Nat → α} (h : ∀ i, i < n → f i = g i) : tabS n f = tabS n g := by
  unfold tabS
  exact List.map_congr_left fun i hi => h i (List.mem_range.1 hi)

def SmOk (q : Rat) : Prop := (-1000000 ≤ q.num ∧ q.num ≤ 1000000) ∧ (q.den : Int) ≤ 1000000

structure SmR where
  q : Rat
  h : SmOk q

theorem SmR.ext' {x y : SmR} (h : x.q = y.q) : x = y := by
  cases x; cases y; simp only at h; subst h; rfl

def PtsM (xs ys : List Int) (m : Nat) : Prop := (xs.length = ys.length ∧ 1 ≤ xs.length ∧ xs.length ≤ m) ∧ PtsT xs ys xs.length

noncomputable instance (xs ys : List Int) (m : Nat) : Decidable (PtsM xs ys m) := Classical.propDecidable _

theorem Cloud.m {xs ys : List Int} (h : Cloud xs ys) : PtsM xs ys 7 := by
  obtain ⟨⟨h1, h2, h3⟩, i, h4, h5, _⟩ := h
  exact ⟨⟨h2, by omega, h3⟩, h1⟩

theorem gc_freeze {P : Program} {A : Heap} {X : List Nat} {E : List (Nat × AV)} {S S0 : Sig} {Q : Exit → St → Prop} {c : MC} {v : AV} {es n : Nat} {cs : List AV} (hs : Sel S ⟨.rw, v, es, n, cs⟩ S0) (h : GC P A X E (⟨.ro, v, es, n, cs⟩ :: S0) c Q) : GC P A X E S c Q := ⟨fun s hf => h.g s ⟨hf.env, (hf.ok.sel hs).freeze⟩⟩

noncomputable def dOne (args : List AV) (r : AV) : List AV → Option AV := fun a => by
  classical
  exact if a = args then some r else none

theorem dOne_is {args : List AV} {r : AV} : dOne args r args = some r := if_pos rfl

theorem dOne_ok {P : Program} {H : Heap} {f : FuncId} {args : List AV} {r : AV} (hc : Callable P f) (h : ACalls P f args H fun r' H' => r' = r ∧ H' = H) : FamOk P H f (dOne args r) := by
  intro a v hv
  unfold dOne at hv
  split at hv
  · rename_i e
    simp only [Option.some.injEq] at hv; subst hv; subst e
    exact ⟨hc, h⟩
  · cases hv

theorem Pts.neg {xs ys : List Int} (h : Pts xs ys) : Pts xs (ys.map (- ·)) := by
  obtain ⟨h1, h2, h3⟩ := h
  refine ⟨fun i hi => ?_, by simp [h2], h3⟩
  have h4 := h1 i hi
  rw [getD_map _ (by omega)]
  exact ⟨by simp; omega, h4.2.1, by omega⟩

theorem Cloud.neg {xs ys : List Int} (h : Cloud xs ys) : Cloud xs (ys.map (- ·)) := ⟨h.1.neg, h.2⟩
/- slopes of what is turned, of what is negated -/

theorem nth_take {xs : List Int} {m i : Nat} (h : i < m) : nth (xs.take m) i = nth xs i := by
  unfold nth
  simp [List.getD, List.getElem?_take_of_lt h]

theorem Pts.take {xs ys : List Int} (h : Pts xs ys) (m : Nat) : Pts (xs.take m) (ys.take m) := by
  obtain ⟨h1, h2, h3⟩ := h
  refine ⟨fun i hi => ?_, by simp [h2], by simp; omega⟩
  rw [List.length_take] at hi
  have h4 := h1 i (by omega)
  rw [nth_take (by omega), nth_take (by omega), List.length_take]
  exact ⟨by omega, h4.2⟩

theorem CvOk.take {xs ys : List Int} (h : CvOk xs ys) {m : Nat} (h1 : 1 ≤ m) (hm : m ≤ xs.length) : CvOk (xs.take m) (ys.take m) := by
  have h5 := h.1.2
  have hl : (xs.take m).length = m := by rw [List.length_take]; omega
  refine ⟨⟨h.1.1.take m, by rw [hl]; omega⟩, fun i hi k hk => ?_⟩
  rw [hl] at hi
  rw [nth_take (by omega), nth_take (by omega)]
  exact h.2 i (by omega) k hk

theorem leTot (a b : Rat) : a ≤ b ∨ b ≤ a := Rat.le_total

theorem le_divR {a c d : Rat} (hd : 0 < d) : c ≤ a / d ↔ c * d ≤ a := by
  have hn : d ≠ 0 := by grind
  have h1 : a / d * d = a := Rat.div_mul_cancel hn
  constructor
  · intro h
    have := Rat.mul_le_mul_of_nonneg_right h (Rat.le_of_lt hd)
    rw [h1] at this; exact this
  · intro h
    rcases leTot c (a / d) with h2 | h2
    · exact h2
    · have := Rat.mul_le_mul_of_nonneg_right h2 (Rat.le_of_lt hd)
      rw [h1] at this
      have h3 : c * d = a := Rat.le_antisymm h this
      have : c = a / d := by rw [← h3, Rat.div_def, Rat.mul_assoc, Rat.mul_inv_cancel _ hn, Rat.mul_one]
      rw [this]; exact Rat.le_refl

end Go.Rx.Try
