import Derived.Test.YtmjhopdonddpcaaD8
namespace Go.Rx.Try
open Go.Proofs
set_option maxRecDepth 100000
set_option maxHeartbeats 8000000
set_option linter.unusedSimpArgs false
set_option linter.unusedVariables false

theorem implRanksOf_ok {H : Heap} {a : AV} {xs : List Int} (ha : Ints H a xs) (hl : xs.length ≤ 1000000) :
    ACalls Try.prog fn_impl_RanksOf [a] H fun r H' => OwnI H H' r (ranksOf xs) ∧ Le H H' := by
  refine code_impl_RanksOf.go [.roI a xs.length xs] ⟨⟨rfl, ha⟩, trivial⟩ (by simp) ?_
  unfold mc_impl_RanksOf
  (repeat (first | with_reducible (first | refine go_nil ?_ | refine gk_seq ?_ | refine gc_seq ?_ | refine gc_reg ?_ | refine gc_skip ?_ | refine gk_block ?_ | refine gc_block ?_ | refine gc_exit ?_ | refine gc_ret ?_ | refine gk_seqret ?_ | refine gk_seqexit ?_ | refine gk_blockret ?_ | refine gk_out ?_ | refine gk_loopret ?_ | refine gk_loopexit ?_ | refine gq_nil ?_ | refine gd_nil ?_) | (with_reducible refine gc_drq ?_; intro _) | (with_reducible refine gc_drw ?_; intro _) | ((first | apply go_is | apply gq_is | apply gd_is); (next => exact rfl); (next => first | (show Stp _ _ _ _ (.mv _) _; exact stp_mv) | (show Stp _ _ _ _ (.ixa _ _ _) _; (first | exact stp_ixa | exact stp_ixa0 | exact stp_ixaz)) | (show Stp _ _ _ _ (.ld _ _ _) _; (first | exact stp_ld | exact stp_ldc1 | exact stp_ldb | exact stp_ldc)) | (show Stp _ _ _ _ (.len _) _; exact stp_len) | (show Stp _ _ _ _ (.bin .add _ _) _; (first | exact stp_addn | exact stp_addnn | exact stp_add | exact stp_addu1 | exact stp_addw)) | (show Stp _ _ _ _ (.bin .sub _ _) _; (first | exact stp_subn | exact stp_sub | exact stp_subu1 | exact stp_subw)) | (show Stp _ _ _ _ (.bin .mul _ _) _; (first | exact stp_mul | exact stp_mulw)) | (show Stp _ _ _ _ (.bin .lss _ _) _; exact stp_lt) | (show Stp _ _ _ _ (.bin .gtr _ _) _; exact stp_gt) | (show Stp _ _ _ _ (.bin .eql _ _) _; exact stp_eq) | (show Stp _ _ _ _ (.bin .neq _ _) _; exact stp_ne) | (show Stp _ _ _ _ (.bin .leq _ _) _; exact stp_le) | (show Stp _ _ _ _ (.bin .geq _ _) _; exact stp_ge) | (show Stp _ _ _ _ (.bin .quo _ _) _; exact stp_quon) | (show Stp _ _ _ _ (.bin .rem _ _) _; exact stp_remn) | (show Stp _ _ _ _ (.un .not _) _; (first | exact stp_notd | exact stp_not)) | (show Stp _ _ _ _ (.un .neg _) _; exact stp_neg) | (show Stp _ _ _ _ (.ext _ _) _; exact stp_ext) | (show Stp _ _ _ _ (.pick _ _ _) _; (first | exact stp_pickt | exact stp_pickf | exact stp_pick)) | (show Stp _ _ _ _ (.beq _ _ _) _; (first | exact stp_beqd | exact stp_bned | exact stp_beq)) | (show Stp _ _ _ _ (.mnmx _ _ _) _; (first | exact stp_max | exact stp_min | exact stp_max3 | exact stp_min3)) | (show Stp _ _ _ _ (.lens _) _; exact stp_lens) | (show Stp _ _ _ _ (.mkf _ _) _; exact stp_mkf) | (show Stp _ _ _ _ (.fld _ _ _ _) _; exact stp_fld) | (show Stp _ _ _ _ (.nilck _) _; exact stp_nilp) | (show Stp _ _ _ _ (.fa _ _) _; exact stp_fa) | (show Stp _ _ _ _ (.bin .xor _ _) _; exact stp_xor) | (show Stp _ _ _ _ (.bin .shr _ _) _; exact stp_shr) | (show Stp _ _ _ _ (.bin .shl _ _) _; exact stp_shl1) | (show Stp _ _ _ _ (.bin .and _ _) _; exact stp_and1) | (show Stp _ _ _ _ (.bin .or _ _) _; exact stp_oru) | (show Stp _ _ _ _ (.un .xor _) _; exact stp_notu) | (show Stp _ _ _ _ (.conv _ _) _; (first | exact stp_convb | exact stp_conv)))) | (show GO _ _ _ _ _ (⟨some _, none, .call _ _⟩ :: _) _; first | (show GO _ _ _ _ _ (⟨some _, none, .call fn_impl_ValidData _⟩ :: _) _; refine go_implValid (hk := ?_); try intro u) | (show GO _ _ _ _ _ (⟨some _, none, .call fn_impl_twiceRanks _⟩ :: _) _; refine go_calln rfl code_impl_twiceRanks.callable (fun H hH => implTwiceRanks_ok (hH.ints (by (first | exact Has.ro | exact Has.rw | exact Has.tail Has.ro | exact Has.tail Has.rw | exact Has.tail (Has.tail Has.ro) | exact Has.tail (Has.tail Has.rw) | exact Has.tail (Has.tail (Has.tail Has.ro)) | exact Has.tail (Has.tail (Has.tail Has.rw)) | exact Has.tail (Has.tail (Has.tail (Has.tail Has.ro))) | exact Has.tail (Has.tail (Has.tail (Has.tail Has.rw))) | exact Has.tail (Has.tail (Has.tail (Has.tail (Has.tail Has.ro)))) | exact Has.tail (Has.tail (Has.tail (Has.tail (Has.tail Has.rw)))) | exact Has.tail (Has.tail (Has.tail (Has.tail (Has.tail (Has.tail Has.ro))))) | exact Has.tail (Has.tail (Has.tail (Has.tail (Has.tail (Has.tail Has.rw))))) | exact Has.tail (Has.tail (Has.tail (Has.tail (Has.tail (Has.tail (Has.tail Has.ro)))))) | exact Has.tail (Has.tail (Has.tail (Has.tail (Has.tail (Has.tail (Has.tail Has.rw)))))) | exact Has.tail (Has.tail (Has.tail (Has.tail (Has.tail (Has.tail (Has.tail (Has.tail Has.ro))))))) | exact Has.tail (Has.tail (Has.tail (Has.tail (Has.tail (Has.tail (Has.tail (Has.tail Has.rw))))))) | exact Has.tail (Has.tail (Has.tail (Has.tail (Has.tail (Has.tail (Has.tail (Has.tail (Has.tail Has.ro)))))))) | exact Has.tail (Has.tail (Has.tail (Has.tail (Has.tail (Has.tail (Has.tail (Has.tail (Has.tail Has.rw))))))))))) (by omega)) ?_; intro u)) | ((first | apply go_new | apply gq_new | apply gd_new); (next => exact rfl); (next => first | (show Stp _ _ _ _ (.app _ _ _ _) _; exact stp_appI) | (show Stp _ _ _ _ (.bsl _ _ _ _) _; exact stp_bsl) | (show Stp _ _ _ _ (.mks _ _ _ _ _) _; (first | exact stp_mk | exact stp_mkz)) | (show Stp _ _ _ _ (.sl _ _ _ _ _) _; (first | exact stp_from1 | exact stp_from | exact stp_upto))); intro u; try simp only [List.length_cons, List.length_nil, List.nil_append, Nat.zero_add]) | ((first | apply go_is0 | apply gd_is0); (next => exact rfl); (next => first | exact stp_st | exact stp_st21)) | (show GO _ _ _ _ _ (⟨_, some _, _⟩ :: _) _; first | refine go_in (hk := ?_) | refine go_out (hk := ?_) | refine go_void (hk := ?_)) | (show GQ _ _ _ _ _ _ (⟨_, some _, _⟩ :: _) _; first | refine gq_in (hk := ?_) | refine gq_out (hk := ?_) | refine gq_void (hk := ?_)) | (show GK _ _ _ _ (blockK _ _ _); refine gk_past rfl ?_) | (show GC _ _ _ _ _ (.cond _ _ _) _; first | refine gc_yes (h1 := ?_) | refine gc_no (h1 := ?_))))
  refine gc_cond rfl (fun h => ?_) (fun h => ?_)
  · (repeat (first | with_reducible (first | refine go_nil ?_ | refine gk_seq ?_ | refine gc_seq ?_ | refine gc_reg ?_ | refine gc_skip ?_ | refine gk_block ?_ | refine gc_block ?_ | refine gc_exit ?_ | refine gc_ret ?_ | refine gk_seqret ?_ | refine gk_seqexit ?_ | refine gk_blockret ?_ | refine gk_out ?_ | refine gk_loopret ?_ | refine gk_loopexit ?_ | refine gq_nil ?_ | refine gd_nil ?_) | (with_reducible refine gc_drq ?_; intro _) | (with_reducible refine gc_drw ?_; intro _) | ((first | apply go_is | apply gq_is | apply gd_is); (next => exact rfl); (next => first | (show Stp _ _ _ _ (.mv _) _; exact stp_mv) | (show Stp _ _ _ _ (.ixa _ _ _) _; (first | exact stp_ixa | exact stp_ixa0 | exact stp_ixaz)) | (show Stp _ _ _ _ (.ld _ _ _) _; (first | exact stp_ld | exact stp_ldc1 | exact stp_ldb | exact stp_ldc)) | (show Stp _ _ _ _ (.len _) _; exact stp_len) | (show Stp _ _ _ _ (.bin .add _ _) _; (first | exact stp_addn | exact stp_addnn | exact stp_add | exact stp_addu1 | exact stp_addw)) | (show Stp _ _ _ _ (.bin .sub _ _) _; (first | exact stp_subn | exact stp_sub | exact stp_subu1 | exact stp_subw)) | (show Stp _ _ _ _ (.bin .mul _ _) _; (first | exact stp_mul | exact stp_mulw)) | (show Stp _ _ _ _ (.bin .lss _ _) _; exact stp_lt) | (show Stp _ _ _ _ (.bin .gtr _ _) _; exact stp_gt) | (show Stp _ _ _ _ (.bin .eql _ _) _; exact stp_eq) | (show Stp _ _ _ _ (.bin .neq _ _) _; exact stp_ne) | (show Stp _ _ _ _ (.bin .leq _ _) _; exact stp_le) | (show Stp _ _ _ _ (.bin .geq _ _) _; exact stp_ge) | (show Stp _ _ _ _ (.bin .quo _ _) _; exact stp_quon) | (show Stp _ _ _ _ (.bin .rem _ _) _; exact stp_remn) | (show Stp _ _ _ _ (.un .not _) _; (first | exact stp_notd | exact stp_not)) | (show Stp _ _ _ _ (.un .neg _) _; exact stp_neg) | (show Stp _ _ _ _ (.ext _ _) _; exact stp_ext) | (show Stp _ _ _ _ (.pick _ _ _) _; (first | exact stp_pickt | exact stp_pickf | exact stp_pick)) | (show Stp _ _ _ _ (.beq _ _ _) _; (first | exact stp_beqd | exact stp_bned | exact stp_beq)) | (show Stp _ _ _ _ (.mnmx _ _ _) _; (first | exact stp_max | exact stp_min | exact stp_max3 | exact stp_min3)) | (show Stp _ _ _ _ (.lens _) _; exact stp_lens) | (show Stp _ _ _ _ (.mkf _ _) _; exact stp_mkf) | (show Stp _ _ _ _ (.fld _ _ _ _) _; exact stp_fld) | (show Stp _ _ _ _ (.nilck _) _; exact stp_nilp) | (show Stp _ _ _ _ (.fa _ _) _; exact stp_fa) | (show Stp _ _ _ _ (.bin .xor _ _) _; exact stp_xor) | (show Stp _ _ _ _ (.bin .shr _ _) _; exact stp_shr) | (show Stp _ _ _ _ (.bin .shl _ _) _; exact stp_shl1) | (show Stp _ _ _ _ (.bin .and _ _) _; exact stp_and1) | (show Stp _ _ _ _ (.bin .or _ _) _; exact stp_oru) | (show Stp _ _ _ _ (.un .xor _) _; exact stp_notu) | (show Stp _ _ _ _ (.conv _ _) _; (first | exact stp_convb | exact stp_conv)))) | (show GO _ _ _ _ _ (⟨some _, none, .call _ _⟩ :: _) _; first | (show GO _ _ _ _ _ (⟨some _, none, .call fn_impl_ValidData _⟩ :: _) _; refine go_implValid (hk := ?_); try intro u) | (show GO _ _ _ _ _ (⟨some _, none, .call fn_impl_twiceRanks _⟩ :: _) _; refine go_calln rfl code_impl_twiceRanks.callable (fun H hH => implTwiceRanks_ok (hH.ints (by (first | exact Has.ro | exact Has.rw | exact Has.tail Has.ro | exact Has.tail Has.rw | exact Has.tail (Has.tail Has.ro) | exact Has.tail (Has.tail Has.rw) | exact Has.tail (Has.tail (Has.tail Has.ro)) | exact Has.tail (Has.tail (Has.tail Has.rw)) | exact Has.tail (Has.tail (Has.tail (Has.tail Has.ro))) | exact Has.tail (Has.tail (Has.tail (Has.tail Has.rw))) | exact Has.tail (Has.tail (Has.tail (Has.tail (Has.tail Has.ro)))) | exact Has.tail (Has.tail (Has.tail (Has.tail (Has.tail Has.rw)))) | exact Has.tail (Has.tail (Has.tail (Has.tail (Has.tail (Has.tail Has.ro))))) | exact Has.tail (Has.tail (Has.tail (Has.tail (Has.tail (Has.tail Has.rw))))) | exact Has.tail (Has.tail (Has.tail (Has.tail (Has.tail (Has.tail (Has.tail Has.ro)))))) | exact Has.tail (Has.tail (Has.tail (Has.tail (Has.tail (Has.tail (Has.tail Has.rw)))))) | exact Has.tail (Has.tail (Has.tail (Has.tail (Has.tail (Has.tail (Has.tail (Has.tail Has.ro))))))) | exact Has.tail (Has.tail (Has.tail (Has.tail (Has.tail (Has.tail (Has.tail (Has.tail Has.rw))))))) | exact Has.tail (Has.tail (Has.tail (Has.tail (Has.tail (Has.tail (Has.tail (Has.tail (Has.tail Has.ro)))))))) | exact Has.tail (Has.tail (Has.tail (Has.tail (Has.tail (Has.tail (Has.tail (Has.tail (Has.tail Has.rw))))))))))) (by omega)) ?_; intro u)) | ((first | apply go_new | apply gq_new | apply gd_new); (next => exact rfl); (next => first | (show Stp _ _ _ _ (.app _ _ _ _) _; exact stp_appI) | (show Stp _ _ _ _ (.bsl _ _ _ _) _; exact stp_bsl) | (show Stp _ _ _ _ (.mks _ _ _ _ _) _; (first | exact stp_mk | exact stp_mkz)) | (show Stp _ _ _ _ (.sl _ _ _ _ _) _; (first | exact stp_from1 | exact stp_from | exact stp_upto))); intro u; try simp only [List.length_cons, List.length_nil, List.nil_append, Nat.zero_add]) | ((first | apply go_is0 | apply gd_is0); (next => exact rfl); (next => first | exact stp_st | exact stp_st21)) | (show GO _ _ _ _ _ (⟨_, some _, _⟩ :: _) _; first | refine go_in (hk := ?_) | refine go_out (hk := ?_) | refine go_void (hk := ?_)) | (show GQ _ _ _ _ _ _ (⟨_, some _, _⟩ :: _) _; first | refine gq_in (hk := ?_) | refine gq_out (hk := ?_) | refine gq_void (hk := ?_)) | (show GK _ _ _ _ (blockK _ _ _); refine gk_past rfl ?_) | (show GC _ _ _ _ _ (.cond _ _ _) _; first | refine gc_yes (h1 := ?_) | refine gc_no (h1 := ?_))))
    refine gk_ret rfl fun H' hH => ⟨?_, hH.leE⟩
    simp only [ranksOf, if_neg h]
    exact Own.nil _ _ _
  · have h : Data xs := Decidable.not_not.1 h
    (repeat (first | with_reducible (first | refine go_nil ?_ | refine gk_seq ?_ | refine gc_seq ?_ | refine gc_reg ?_ | refine gc_skip ?_ | refine gk_block ?_ | refine gc_block ?_ | refine gc_exit ?_ | refine gc_ret ?_ | refine gk_seqret ?_ | refine gk_seqexit ?_ | refine gk_blockret ?_ | refine gk_out ?_ | refine gk_loopret ?_ | refine gk_loopexit ?_ | refine gq_nil ?_ | refine gd_nil ?_) | (with_reducible refine gc_drq ?_; intro _) | (with_reducible refine gc_drw ?_; intro _) | ((first | apply go_is | apply gq_is | apply gd_is); (next => exact rfl); (next => first | (show Stp _ _ _ _ (.mv _) _; exact stp_mv) | (show Stp _ _ _ _ (.ixa _ _ _) _; (first | exact stp_ixa | exact stp_ixa0 | exact stp_ixaz)) | (show Stp _ _ _ _ (.ld _ _ _) _; (first | exact stp_ld | exact stp_ldc1 | exact stp_ldb | exact stp_ldc)) | (show Stp _ _ _ _ (.len _) _; exact stp_len) | (show Stp _ _ _ _ (.bin .add _ _) _; (first | exact stp_addn | exact stp_addnn | exact stp_add | exact stp_addu1 | exact stp_addw)) | (show Stp _ _ _ _ (.bin .sub _ _) _; (first | exact stp_subn | exact stp_sub | exact stp_subu1 | exact stp_subw)) | (show Stp _ _ _ _ (.bin .mul _ _) _; (first | exact stp_mul | exact stp_mulw)) | (show Stp _ _ _ _ (.bin .lss _ _) _; exact stp_lt) | (show Stp _ _ _ _ (.bin .gtr _ _) _; exact stp_gt) | (show Stp _ _ _ _ (.bin .eql _ _) _; exact stp_eq) | (show Stp _ _ _ _ (.bin .neq _ _) _; exact stp_ne) | (show Stp _ _ _ _ (.bin .leq _ _) _; exact stp_le) | (show Stp _ _ _ _ (.bin .geq _ _) _; exact stp_ge) | (show Stp _ _ _ _ (.bin .quo _ _) _; exact stp_quon) | (show Stp _ _ _ _ (.bin .rem _ _) _; exact stp_remn) | (show Stp _ _ _ _ (.un .not _) _; (first | exact stp_notd | exact stp_not)) | (show Stp _ _ _ _ (.un .neg _) _; exact stp_neg) | (show Stp _ _ _ _ (.ext _ _) _; exact stp_ext) | (show Stp _ _ _ _ (.pick _ _ _) _; (first | exact stp_pickt | exact stp_pickf | exact stp_pick)) | (show Stp _ _ _ _ (.beq _ _ _) _; (first | exact stp_beqd | exact stp_bned | exact stp_beq)) | (show Stp _ _ _ _ (.mnmx _ _ _) _; (first | exact stp_max | exact stp_min | exact stp_max3 | exact stp_min3)) | (show Stp _ _ _ _ (.lens _) _; exact stp_lens) | (show Stp _ _ _ _ (.mkf _ _) _; exact stp_mkf) | (show Stp _ _ _ _ (.fld _ _ _ _) _; exact stp_fld) | (show Stp _ _ _ _ (.nilck _) _; exact stp_nilp) | (show Stp _ _ _ _ (.fa _ _) _; exact stp_fa) | (show Stp _ _ _ _ (.bin .xor _ _) _; exact stp_xor) | (show Stp _ _ _ _ (.bin .shr _ _) _; exact stp_shr) | (show Stp _ _ _ _ (.bin .shl _ _) _; exact stp_shl1) | (show Stp _ _ _ _ (.bin .and _ _) _; exact stp_and1) | (show Stp _ _ _ _ (.bin .or _ _) _; exact stp_oru) | (show Stp _ _ _ _ (.un .xor _) _; exact stp_notu) | (show Stp _ _ _ _ (.conv _ _) _; (first | exact stp_convb | exact stp_conv)))) | (show GO _ _ _ _ _ (⟨some _, none, .call _ _⟩ :: _) _; first | (show GO _ _ _ _ _ (⟨some _, none, .call fn_impl_ValidData _⟩ :: _) _; refine go_implValid (hk := ?_); try intro u) | (show GO _ _ _ _ _ (⟨some _, none, .call fn_impl_twiceRanks _⟩ :: _) _; refine go_calln rfl code_impl_twiceRanks.callable (fun H hH => implTwiceRanks_ok (hH.ints (by (first | exact Has.ro | exact Has.rw | exact Has.tail Has.ro | exact Has.tail Has.rw | exact Has.tail (Has.tail Has.ro) | exact Has.tail (Has.tail Has.rw) | exact Has.tail (Has.tail (Has.tail Has.ro)) | exact Has.tail (Has.tail (Has.tail Has.rw)) | exact Has.tail (Has.tail (Has.tail (Has.tail Has.ro))) | exact Has.tail (Has.tail (Has.tail (Has.tail Has.rw))) | exact Has.tail (Has.tail (Has.tail (Has.tail (Has.tail Has.ro)))) | exact Has.tail (Has.tail (Has.tail (Has.tail (Has.tail Has.rw)))) | exact Has.tail (Has.tail (Has.tail (Has.tail (Has.tail (Has.tail Has.ro))))) | exact Has.tail (Has.tail (Has.tail (Has.tail (Has.tail (Has.tail Has.rw))))) | exact Has.tail (Has.tail (Has.tail (Has.tail (Has.tail (Has.tail (Has.tail Has.ro)))))) | exact Has.tail (Has.tail (Has.tail (Has.tail (Has.tail (Has.tail (Has.tail Has.rw)))))) | exact Has.tail (Has.tail (Has.tail (Has.tail (Has.tail (Has.tail (Has.tail (Has.tail Has.ro))))))) | exact Has.tail (Has.tail (Has.tail (Has.tail (Has.tail (Has.tail (Has.tail (Has.tail Has.rw))))))) | exact Has.tail (Has.tail (Has.tail (Has.tail (Has.tail (Has.tail (Has.tail (Has.tail (Has.tail Has.ro)))))))) | exact Has.tail (Has.tail (Has.tail (Has.tail (Has.tail (Has.tail (Has.tail (Has.tail (Has.tail Has.rw))))))))))) (by omega)) ?_; intro u)) | ((first | apply go_new | apply gq_new | apply gd_new); (next => exact rfl); (next => first | (show Stp _ _ _ _ (.app _ _ _ _) _; exact stp_appI) | (show Stp _ _ _ _ (.bsl _ _ _ _) _; exact stp_bsl) | (show Stp _ _ _ _ (.mks _ _ _ _ _) _; (first | exact stp_mk | exact stp_mkz)) | (show Stp _ _ _ _ (.sl _ _ _ _ _) _; (first | exact stp_from1 | exact stp_from | exact stp_upto))); intro u; try simp only [List.length_cons, List.length_nil, List.nil_append, Nat.zero_add]) | ((first | apply go_is0 | apply gd_is0); (next => exact rfl); (next => first | exact stp_st | exact stp_st21)) | (show GO _ _ _ _ _ (⟨_, some _, _⟩ :: _) _; first | refine go_in (hk := ?_) | refine go_out (hk := ?_) | refine go_void (hk := ?_)) | (show GQ _ _ _ _ _ _ (⟨_, some _, _⟩ :: _) _; first | refine gq_in (hk := ?_) | refine gq_out (hk := ?_) | refine gq_void (hk := ?_)) | (show GK _ _ _ _ (blockK _ _ _); refine gk_past rfl ?_) | (show GC _ _ _ _ _ (.cond _ _ _) _; first | refine gc_yes (h1 := ?_) | refine gc_no (h1 := ?_))))
    refine gk_ret rfl fun H' hH => ?_
    unfold OwnI
    simp only [ranksOf, if_pos h]
    exact hH.give .head

theorem data_neg {xs : List Int} (h : Data xs) : Data (negL xs) := by
  refine ⟨by rw [negL_length]; exact h.1, fun i hi => ?_⟩
  rw [negL_length] at hi
  have := h.2 i hi
  rw [negL, getD_map _ hi]; omega

theorem Data.app {xs ys : List Int} (h : Samples xs ys) : Data (xs ++ ys) := by
  obtain ⟨⟨h1, h2⟩, h3, h4, h5⟩ := h
  refine ⟨by simp; omega, fun i hi => ?_⟩
  by_cases h6 : i < xs.length
  · have : nth (xs ++ ys) i = nth xs i := by simp [nth, List.getElem?_append_left h6]
    rw [this]; exact h1.2 i h6
  · have : nth (xs ++ ys) i = nth ys (i - xs.length) := by simp [nth, List.getElem?_append_right (by omega : xs.length ≤ i)]
    rw [this]; exact h2.2 _ (by simp at hi; omega)

/-- gaps of ranks -/
theorem gapTo_comm (x y : List Int) : ∀ i, gapTo x y i = gapTo y x i
  | 0 => rfl
  | i + 1 => by
    rw [gapTo, gapTo, gapTo_comm x y i]
    have : (nth x i - nth y i) * (nth x i - nth y i) = (nth y i - nth x i) * (nth y i - nth x i) := by grind
    rw [this]

theorem sq_nonneg' (d : Int) : 0 ≤ d * d := by
  rcases Int.le_total 0 d with h | h
  · exact Int.mul_nonneg h h
  · exact Int.mul_nonneg_of_nonpos_of_nonpos h h

theorem gapTo_zero {x y : List Int} : ∀ i, gapTo x y i = 0 → ∀ k, k < i → nth x k = nth y k
  | 0, _, k, hk => by omega
  | i + 1, h, k, hk => by
    rw [gapTo] at h
    have h1 : 0 ≤ gapTo x y i := by
      clear h hk
      induction i with
      | zero => simp [gapTo]
      | succ i ih =>
        rw [gapTo]
        have := sq_nonneg' (nth x i - nth y i)
        omega
    have h2 := sq_nonneg' (nth x i - nth y i)
    by_cases hki : k = i
    · subst hki
      have h3 : (nth x k - nth y k) * (nth x k - nth y k) = 0 := by omega
      rcases Int.mul_eq_zero.1 h3 with h4 | h4 <;> omega
    · exact gapTo_zero i (by omega) k (by omega)

theorem gapTo_self (x : List Int) : ∀ i, gapTo x x i = 0
  | 0 => rfl
  | i + 1 => by rw [gapTo, gapTo_self x i]; simp

def sqTo (x y : List Int) (n : Int) : Nat → Int
  | 0 => 0
  | i + 1 => sqTo x y n i + (nth x i - n - 1) * (nth x i - n - 1) + (nth y i - n - 1) * (nth y i - n - 1)

theorem gap_neg (x y : List Int) (n : Int) : ∀ i, i ≤ y.length → gapTo x y i + gapTo x (y.map fun r => 2 * n + 2 - r) i = 2 * sqTo x y n i
  | 0, _ => rfl
  | i + 1, hi => by
    have ih := gap_neg x y n i (by omega)
    rw [gapTo, gapTo, sqTo, getD_map _ (by omega)]
    generalize nth x i = p
    generalize nth y i = q
    have : (p - q) * (p - q) + (p - (2 * n + 2 - q)) * (p - (2 * n + 2 - q)) = 2 * ((p - n - 1) * (p - n - 1)) + 2 * ((q - n - 1) * (q - n - 1)) := by grind
    omega

theorem sqTo_le {x y : List Int} {n : Int} (hx : Bd 100 x) (hy : Bd 100 y) (hn : 0 ≤ n ∧ n ≤ 10) : ∀ i : Nat, 0 ≤ sqTo x y n i ∧ sqTo x y n i ≤ 30000 * (i : Int)
  | 0 => by simp [sqTo]
  | i + 1 => by
    have ih := sqTo_le hx hy hn i
    have h1 := hx.nth (by omega) i
    have h2 := hy.nth (by omega) i
    have s1 := sq_le (d := nth x i - n - 1) (m := 120) (by omega) (by omega)
    have s2 := sq_le (d := nth y i - n - 1) (m := 120) (by omega) (by omega)
    rw [sqTo]; omega

theorem two_neg {xs ys : List Int} (h : Two xs ys) : Two xs (negL ys) := ⟨⟨h.1.1, data_neg h.1.2⟩, by rw [negL_length]; exact h.2⟩

theorem two_swap {xs ys : List Int} (h : Two xs ys) : Two ys xs := ⟨⟨h.1.2, h.1.1⟩, h.2.symm⟩

theorem gap_facts {xs ys : List Int} (h : Two xs ys) : gapOf ys xs = gapOf xs ys ∧ (gapOf xs ys = 0 ↔ ranksL xs = ranksL ys) ∧ gapOf xs ys + gapOf xs (negL ys) = 2 * sqTo (ranksL xs) (ranksL ys) xs.length xs.length := by
  have hl : xs.length = ys.length := h.2
  refine ⟨?_, ?_, ?_⟩
  · rw [gapOf, gapOf, if_pos h, if_pos (two_swap h), gapTo_comm, hl]
  · rw [gapOf, if_pos h]
    constructor
    · intro h0
      refine list_ext_getD (by rw [ranksL_length, ranksL_length, hl]) fun k hk => ?_
      rw [ranksL_length] at hk
      exact gapTo_zero _ h0 k hk
    · intro e; rw [e, gapTo_self]
  · rw [gapOf, gapOf, if_pos h, if_pos (two_neg h), ranks_neg, ← hl, gap_neg _ _ _ _ (by rw [ranksL_length]; omega)]

end Go.Rx.Try
