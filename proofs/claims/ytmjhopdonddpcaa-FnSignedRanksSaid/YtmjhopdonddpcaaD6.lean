import Derived.Test.YtmjhopdonddpcaaD5
namespace Go.Rx.Try
open Go.Proofs
set_option maxRecDepth 100000
set_option maxHeartbeats 8000000
set_option linter.unusedSimpArgs false
set_option linter.unusedVariables false

theorem sumAt_ok {H : Heap} {a : AV} {xs : List Int} {p : Nat} (ha : Ints H a xs) (hl : xs.length ≤ 60) (hb : Bd 1000000 xs) :
    ACalls Try.prog fn_impl_sumAt [a, .int .u64 (p : Int)] H fun r H' => r = .int .i64 (maskSum xs p) ∧ H' = H := by
  refine ACalls.val ?_ rfl
  refine code_impl_sumAt.go [.roI a xs.length xs] ⟨⟨rfl, ha⟩, trivial⟩ (by simp) ?_
  unfold mc_impl_sumAt
  (repeat (first | with_reducible (first | refine go_nil ?_ | refine gk_seq ?_ | refine gc_seq ?_ | refine gc_reg ?_ | refine gc_skip ?_ | refine gk_block ?_ | refine gc_block ?_ | refine gc_exit ?_ | refine gc_ret ?_ | refine gk_seqret ?_ | refine gk_seqexit ?_ | refine gk_blockret ?_ | refine gk_out ?_ | refine gk_loopret ?_ | refine gk_loopexit ?_ | refine gq_nil ?_ | refine gd_nil ?_) | (with_reducible refine gc_drq ?_; intro _) | (with_reducible refine gc_drw ?_; intro _) | ((first | apply go_is | apply gq_is | apply gd_is); (next => exact rfl); (next => first | (show Stp _ _ _ _ (.mv _) _; exact stp_mv) | (show Stp _ _ _ _ (.ixa _ _ _) _; (first | exact stp_ixa | exact stp_ixa0 | exact stp_ixaz)) | (show Stp _ _ _ _ (.ld _ _ _) _; (first | exact stp_ld | exact stp_ldc1 | exact stp_ldb | exact stp_ldc)) | (show Stp _ _ _ _ (.len _) _; exact stp_len) | (show Stp _ _ _ _ (.bin .add _ _) _; (first | exact stp_addn | exact stp_addnn | exact stp_add | exact stp_addu1 | exact stp_addw)) | (show Stp _ _ _ _ (.bin .sub _ _) _; (first | exact stp_subn | exact stp_sub | exact stp_subu1 | exact stp_subw)) | (show Stp _ _ _ _ (.bin .mul _ _) _; (first | exact stp_mul | exact stp_mulw)) | (show Stp _ _ _ _ (.bin .lss _ _) _; exact stp_lt) | (show Stp _ _ _ _ (.bin .gtr _ _) _; exact stp_gt) | (show Stp _ _ _ _ (.bin .eql _ _) _; exact stp_eq) | (show Stp _ _ _ _ (.bin .neq _ _) _; exact stp_ne) | (show Stp _ _ _ _ (.bin .leq _ _) _; exact stp_le) | (show Stp _ _ _ _ (.bin .geq _ _) _; exact stp_ge) | (show Stp _ _ _ _ (.bin .quo _ _) _; exact stp_quon) | (show Stp _ _ _ _ (.bin .rem _ _) _; exact stp_remn) | (show Stp _ _ _ _ (.un .not _) _; (first | exact stp_notd | exact stp_not)) | (show Stp _ _ _ _ (.un .neg _) _; exact stp_neg) | (show Stp _ _ _ _ (.ext _ _) _; exact stp_ext) | (show Stp _ _ _ _ (.pick _ _ _) _; (first | exact stp_pickt | exact stp_pickf | exact stp_pick)) | (show Stp _ _ _ _ (.beq _ _ _) _; (first | exact stp_beqd | exact stp_bned | exact stp_beq)) | (show Stp _ _ _ _ (.mnmx _ _ _) _; (first | exact stp_max | exact stp_min | exact stp_max3 | exact stp_min3)) | (show Stp _ _ _ _ (.lens _) _; exact stp_lens) | (show Stp _ _ _ _ (.mkf _ _) _; exact stp_mkf) | (show Stp _ _ _ _ (.fld _ _ _ _) _; exact stp_fld) | (show Stp _ _ _ _ (.nilck _) _; exact stp_nilp) | (show Stp _ _ _ _ (.fa _ _) _; exact stp_fa) | (show Stp _ _ _ _ (.bin .xor _ _) _; exact stp_xor) | (show Stp _ _ _ _ (.bin .shr _ _) _; exact stp_shr) | (show Stp _ _ _ _ (.bin .shl _ _) _; exact stp_shl1) | (show Stp _ _ _ _ (.bin .and _ _) _; exact stp_and1) | (show Stp _ _ _ _ (.bin .or _ _) _; exact stp_oru) | (show Stp _ _ _ _ (.un .xor _) _; exact stp_notu) | (show Stp _ _ _ _ (.conv _ _) _; (first | exact stp_convb | exact stp_conv)))) | (show GO _ _ _ _ _ (⟨some _, none, .call _ _⟩ :: _) _; first | (show GO _ _ _ _ _ (⟨some _, none, .call fn_impl_places_has _⟩ :: _) _; refine go_callp rfl code_impl_places_has.callable (fun H hH => has_ok (by omega)) ?_)) | ((first | apply go_new | apply gq_new | apply gd_new); (next => exact rfl); (next => first | (show Stp _ _ _ _ (.app _ _ _ _) _; exact stp_appI) | (show Stp _ _ _ _ (.bsl _ _ _ _) _; exact stp_bsl) | (show Stp _ _ _ _ (.mks _ _ _ _ _) _; (first | exact stp_mk | exact stp_mkz)) | (show Stp _ _ _ _ (.sl _ _ _ _ _) _; (first | exact stp_from1 | exact stp_from | exact stp_upto))); intro u; try simp only [List.length_cons, List.length_nil, List.nil_append, Nat.zero_add]) | ((first | apply go_is0 | apply gd_is0); (next => exact rfl); (next => first | exact stp_st | exact stp_st21)) | (show GO _ _ _ _ _ (⟨_, some _, _⟩ :: _) _; first | refine go_in (hk := ?_) | refine go_out (hk := ?_) | refine go_void (hk := ?_)) | (show GQ _ _ _ _ _ _ (⟨_, some _, _⟩ :: _) _; first | refine gq_in (hk := ?_) | refine gq_out (hk := ?_) | refine gq_void (hk := ?_)) | (show GK _ _ _ _ (blockK _ _ _); refine gk_past rfl ?_) | (show GC _ _ _ _ _ (.cond _ _ _) _; first | refine gc_yes (h1 := ?_) | refine gc_no (h1 := ?_))))
  refine gc_up xs.length (fun i => [(1, .int .u64 (p : Int)), (5, .int .i64 (maskTo xs p i)), (8, a), (9, .int .i64 xs.length), (10, .int .i64 (i : Int))]) (fun i => [.roI a xs.length xs]) (hb := ?_)
  intro i hi I ν m hn
  have hm := maskTo_le hb (by omega) p i
  have hq := hb.nth (by omega) i
  (repeat (first | with_reducible (first | refine go_nil ?_ | refine gk_seq ?_ | refine gc_seq ?_ | refine gc_reg ?_ | refine gc_skip ?_ | refine gk_block ?_ | refine gc_block ?_ | refine gc_exit ?_ | refine gc_ret ?_ | refine gk_seqret ?_ | refine gk_seqexit ?_ | refine gk_blockret ?_ | refine gk_out ?_ | refine gk_loopret ?_ | refine gk_loopexit ?_ | refine gq_nil ?_ | refine gd_nil ?_) | (with_reducible refine gc_drq ?_; intro _) | (with_reducible refine gc_drw ?_; intro _) | ((first | apply go_is | apply gq_is | apply gd_is); (next => exact rfl); (next => first | (show Stp _ _ _ _ (.mv _) _; exact stp_mv) | (show Stp _ _ _ _ (.ixa _ _ _) _; (first | exact stp_ixa | exact stp_ixa0 | exact stp_ixaz)) | (show Stp _ _ _ _ (.ld _ _ _) _; (first | exact stp_ld | exact stp_ldc1 | exact stp_ldb | exact stp_ldc)) | (show Stp _ _ _ _ (.len _) _; exact stp_len) | (show Stp _ _ _ _ (.bin .add _ _) _; (first | exact stp_addn | exact stp_addnn | exact stp_add | exact stp_addu1 | exact stp_addw)) | (show Stp _ _ _ _ (.bin .sub _ _) _; (first | exact stp_subn | exact stp_sub | exact stp_subu1 | exact stp_subw)) | (show Stp _ _ _ _ (.bin .mul _ _) _; (first | exact stp_mul | exact stp_mulw)) | (show Stp _ _ _ _ (.bin .lss _ _) _; exact stp_lt) | (show Stp _ _ _ _ (.bin .gtr _ _) _; exact stp_gt) | (show Stp _ _ _ _ (.bin .eql _ _) _; exact stp_eq) | (show Stp _ _ _ _ (.bin .neq _ _) _; exact stp_ne) | (show Stp _ _ _ _ (.bin .leq _ _) _; exact stp_le) | (show Stp _ _ _ _ (.bin .geq _ _) _; exact stp_ge) | (show Stp _ _ _ _ (.bin .quo _ _) _; exact stp_quon) | (show Stp _ _ _ _ (.bin .rem _ _) _; exact stp_remn) | (show Stp _ _ _ _ (.un .not _) _; (first | exact stp_notd | exact stp_not)) | (show Stp _ _ _ _ (.un .neg _) _; exact stp_neg) | (show Stp _ _ _ _ (.ext _ _) _; exact stp_ext) | (show Stp _ _ _ _ (.pick _ _ _) _; (first | exact stp_pickt | exact stp_pickf | exact stp_pick)) | (show Stp _ _ _ _ (.beq _ _ _) _; (first | exact stp_beqd | exact stp_bned | exact stp_beq)) | (show Stp _ _ _ _ (.mnmx _ _ _) _; (first | exact stp_max | exact stp_min | exact stp_max3 | exact stp_min3)) | (show Stp _ _ _ _ (.lens _) _; exact stp_lens) | (show Stp _ _ _ _ (.mkf _ _) _; exact stp_mkf) | (show Stp _ _ _ _ (.fld _ _ _ _) _; exact stp_fld) | (show Stp _ _ _ _ (.nilck _) _; exact stp_nilp) | (show Stp _ _ _ _ (.fa _ _) _; exact stp_fa) | (show Stp _ _ _ _ (.bin .xor _ _) _; exact stp_xor) | (show Stp _ _ _ _ (.bin .shr _ _) _; exact stp_shr) | (show Stp _ _ _ _ (.bin .shl _ _) _; exact stp_shl1) | (show Stp _ _ _ _ (.bin .and _ _) _; exact stp_and1) | (show Stp _ _ _ _ (.bin .or _ _) _; exact stp_oru) | (show Stp _ _ _ _ (.un .xor _) _; exact stp_notu) | (show Stp _ _ _ _ (.conv _ _) _; (first | exact stp_convb | exact stp_conv)))) | (show GO _ _ _ _ _ (⟨some _, none, .call _ _⟩ :: _) _; first | (show GO _ _ _ _ _ (⟨some _, none, .call fn_impl_places_has _⟩ :: _) _; refine go_callp rfl code_impl_places_has.callable (fun H hH => has_ok (by omega)) ?_)) | ((first | apply go_new | apply gq_new | apply gd_new); (next => exact rfl); (next => first | (show Stp _ _ _ _ (.app _ _ _ _) _; exact stp_appI) | (show Stp _ _ _ _ (.bsl _ _ _ _) _; exact stp_bsl) | (show Stp _ _ _ _ (.mks _ _ _ _ _) _; (first | exact stp_mk | exact stp_mkz)) | (show Stp _ _ _ _ (.sl _ _ _ _ _) _; (first | exact stp_from1 | exact stp_from | exact stp_upto))); intro u; try simp only [List.length_cons, List.length_nil, List.nil_append, Nat.zero_add]) | ((first | apply go_is0 | apply gd_is0); (next => exact rfl); (next => first | exact stp_st | exact stp_st21)) | (show GO _ _ _ _ _ (⟨_, some _, _⟩ :: _) _; first | refine go_in (hk := ?_) | refine go_out (hk := ?_) | refine go_void (hk := ?_)) | (show GQ _ _ _ _ _ _ (⟨_, some _, _⟩ :: _) _; first | refine gq_in (hk := ?_) | refine gq_out (hk := ?_) | refine gq_void (hk := ?_)) | (show GK _ _ _ _ (blockK _ _ _); refine gk_past rfl ?_) | (show GC _ _ _ _ _ (.cond _ _ _) _; first | refine gc_yes (h1 := ?_) | refine gc_no (h1 := ?_))))
  refine gc_cond rfl (fun h => ?_) (fun h => ?_)
  · (repeat (first | with_reducible (first | refine go_nil ?_ | refine gk_seq ?_ | refine gc_seq ?_ | refine gc_reg ?_ | refine gc_skip ?_ | refine gk_block ?_ | refine gc_block ?_ | refine gc_exit ?_ | refine gc_ret ?_ | refine gk_seqret ?_ | refine gk_seqexit ?_ | refine gk_blockret ?_ | refine gk_out ?_ | refine gk_loopret ?_ | refine gk_loopexit ?_ | refine gq_nil ?_ | refine gd_nil ?_) | (with_reducible refine gc_drq ?_; intro _) | (with_reducible refine gc_drw ?_; intro _) | ((first | apply go_is | apply gq_is | apply gd_is); (next => exact rfl); (next => first | (show Stp _ _ _ _ (.mv _) _; exact stp_mv) | (show Stp _ _ _ _ (.ixa _ _ _) _; (first | exact stp_ixa | exact stp_ixa0 | exact stp_ixaz)) | (show Stp _ _ _ _ (.ld _ _ _) _; (first | exact stp_ld | exact stp_ldc1 | exact stp_ldb | exact stp_ldc)) | (show Stp _ _ _ _ (.len _) _; exact stp_len) | (show Stp _ _ _ _ (.bin .add _ _) _; (first | exact stp_addn | exact stp_addnn | exact stp_add | exact stp_addu1 | exact stp_addw)) | (show Stp _ _ _ _ (.bin .sub _ _) _; (first | exact stp_subn | exact stp_sub | exact stp_subu1 | exact stp_subw)) | (show Stp _ _ _ _ (.bin .mul _ _) _; (first | exact stp_mul | exact stp_mulw)) | (show Stp _ _ _ _ (.bin .lss _ _) _; exact stp_lt) | (show Stp _ _ _ _ (.bin .gtr _ _) _; exact stp_gt) | (show Stp _ _ _ _ (.bin .eql _ _) _; exact stp_eq) | (show Stp _ _ _ _ (.bin .neq _ _) _; exact stp_ne) | (show Stp _ _ _ _ (.bin .leq _ _) _; exact stp_le) | (show Stp _ _ _ _ (.bin .geq _ _) _; exact stp_ge) | (show Stp _ _ _ _ (.bin .quo _ _) _; exact stp_quon) | (show Stp _ _ _ _ (.bin .rem _ _) _; exact stp_remn) | (show Stp _ _ _ _ (.un .not _) _; (first | exact stp_notd | exact stp_not)) | (show Stp _ _ _ _ (.un .neg _) _; exact stp_neg) | (show Stp _ _ _ _ (.ext _ _) _; exact stp_ext) | (show Stp _ _ _ _ (.pick _ _ _) _; (first | exact stp_pickt | exact stp_pickf | exact stp_pick)) | (show Stp _ _ _ _ (.beq _ _ _) _; (first | exact stp_beqd | exact stp_bned | exact stp_beq)) | (show Stp _ _ _ _ (.mnmx _ _ _) _; (first | exact stp_max | exact stp_min | exact stp_max3 | exact stp_min3)) | (show Stp _ _ _ _ (.lens _) _; exact stp_lens) | (show Stp _ _ _ _ (.mkf _ _) _; exact stp_mkf) | (show Stp _ _ _ _ (.fld _ _ _ _) _; exact stp_fld) | (show Stp _ _ _ _ (.nilck _) _; exact stp_nilp) | (show Stp _ _ _ _ (.fa _ _) _; exact stp_fa) | (show Stp _ _ _ _ (.bin .xor _ _) _; exact stp_xor) | (show Stp _ _ _ _ (.bin .shr _ _) _; exact stp_shr) | (show Stp _ _ _ _ (.bin .shl _ _) _; exact stp_shl1) | (show Stp _ _ _ _ (.bin .and _ _) _; exact stp_and1) | (show Stp _ _ _ _ (.bin .or _ _) _; exact stp_oru) | (show Stp _ _ _ _ (.un .xor _) _; exact stp_notu) | (show Stp _ _ _ _ (.conv _ _) _; (first | exact stp_convb | exact stp_conv)))) | (show GO _ _ _ _ _ (⟨some _, none, .call _ _⟩ :: _) _; first | (show GO _ _ _ _ _ (⟨some _, none, .call fn_impl_places_has _⟩ :: _) _; refine go_callp rfl code_impl_places_has.callable (fun H hH => has_ok (by omega)) ?_)) | ((first | apply go_new | apply gq_new | apply gd_new); (next => exact rfl); (next => first | (show Stp _ _ _ _ (.app _ _ _ _) _; exact stp_appI) | (show Stp _ _ _ _ (.bsl _ _ _ _) _; exact stp_bsl) | (show Stp _ _ _ _ (.mks _ _ _ _ _) _; (first | exact stp_mk | exact stp_mkz)) | (show Stp _ _ _ _ (.sl _ _ _ _ _) _; (first | exact stp_from1 | exact stp_from | exact stp_upto))); intro u; try simp only [List.length_cons, List.length_nil, List.nil_append, Nat.zero_add]) | ((first | apply go_is0 | apply gd_is0); (next => exact rfl); (next => first | exact stp_st | exact stp_st21)) | (show GO _ _ _ _ _ (⟨_, some _, _⟩ :: _) _; first | refine go_in (hk := ?_) | refine go_out (hk := ?_) | refine go_void (hk := ?_)) | (show GQ _ _ _ _ _ _ (⟨_, some _, _⟩ :: _) _; first | refine gq_in (hk := ?_) | refine gq_out (hk := ?_) | refine gq_void (hk := ?_)) | (show GK _ _ _ _ (blockK _ _ _); refine gk_past rfl ?_) | (show GC _ _ _ _ _ (.cond _ _ _) _; first | refine gc_yes (h1 := ?_) | refine gc_no (h1 := ?_))))
    refine gc_cond rfl (fun h2 => ?_) (fun h2 => ?_)
    · (repeat (first | with_reducible (first | refine go_nil ?_ | refine gk_seq ?_ | refine gc_seq ?_ | refine gc_reg ?_ | refine gc_skip ?_ | refine gk_block ?_ | refine gc_block ?_ | refine gc_exit ?_ | refine gc_ret ?_ | refine gk_seqret ?_ | refine gk_seqexit ?_ | refine gk_blockret ?_ | refine gk_out ?_ | refine gk_loopret ?_ | refine gk_loopexit ?_ | refine gq_nil ?_ | refine gd_nil ?_) | (with_reducible refine gc_drq ?_; intro _) | (with_reducible refine gc_drw ?_; intro _) | ((first | apply go_is | apply gq_is | apply gd_is); (next => exact rfl); (next => first | (show Stp _ _ _ _ (.mv _) _; exact stp_mv) | (show Stp _ _ _ _ (.ixa _ _ _) _; (first | exact stp_ixa | exact stp_ixa0 | exact stp_ixaz)) | (show Stp _ _ _ _ (.ld _ _ _) _; (first | exact stp_ld | exact stp_ldc1 | exact stp_ldb | exact stp_ldc)) | (show Stp _ _ _ _ (.len _) _; exact stp_len) | (show Stp _ _ _ _ (.bin .add _ _) _; (first | exact stp_addn | exact stp_addnn | exact stp_add | exact stp_addu1 | exact stp_addw)) | (show Stp _ _ _ _ (.bin .sub _ _) _; (first | exact stp_subn | exact stp_sub | exact stp_subu1 | exact stp_subw)) | (show Stp _ _ _ _ (.bin .mul _ _) _; (first | exact stp_mul | exact stp_mulw)) | (show Stp _ _ _ _ (.bin .lss _ _) _; exact stp_lt) | (show Stp _ _ _ _ (.bin .gtr _ _) _; exact stp_gt) | (show Stp _ _ _ _ (.bin .eql _ _) _; exact stp_eq) | (show Stp _ _ _ _ (.bin .neq _ _) _; exact stp_ne) | (show Stp _ _ _ _ (.bin .leq _ _) _; exact stp_le) | (show Stp _ _ _ _ (.bin .geq _ _) _; exact stp_ge) | (show Stp _ _ _ _ (.bin .quo _ _) _; exact stp_quon) | (show Stp _ _ _ _ (.bin .rem _ _) _; exact stp_remn) | (show Stp _ _ _ _ (.un .not _) _; (first | exact stp_notd | exact stp_not)) | (show Stp _ _ _ _ (.un .neg _) _; exact stp_neg) | (show Stp _ _ _ _ (.ext _ _) _; exact stp_ext) | (show Stp _ _ _ _ (.pick _ _ _) _; (first | exact stp_pickt | exact stp_pickf | exact stp_pick)) | (show Stp _ _ _ _ (.beq _ _ _) _; (first | exact stp_beqd | exact stp_bned | exact stp_beq)) | (show Stp _ _ _ _ (.mnmx _ _ _) _; (first | exact stp_max | exact stp_min | exact stp_max3 | exact stp_min3)) | (show Stp _ _ _ _ (.lens _) _; exact stp_lens) | (show Stp _ _ _ _ (.mkf _ _) _; exact stp_mkf) | (show Stp _ _ _ _ (.fld _ _ _ _) _; exact stp_fld) | (show Stp _ _ _ _ (.nilck _) _; exact stp_nilp) | (show Stp _ _ _ _ (.fa _ _) _; exact stp_fa) | (show Stp _ _ _ _ (.bin .xor _ _) _; exact stp_xor) | (show Stp _ _ _ _ (.bin .shr _ _) _; exact stp_shr) | (show Stp _ _ _ _ (.bin .shl _ _) _; exact stp_shl1) | (show Stp _ _ _ _ (.bin .and _ _) _; exact stp_and1) | (show Stp _ _ _ _ (.bin .or _ _) _; exact stp_oru) | (show Stp _ _ _ _ (.un .xor _) _; exact stp_notu) | (show Stp _ _ _ _ (.conv _ _) _; (first | exact stp_convb | exact stp_conv)))) | (show GO _ _ _ _ _ (⟨some _, none, .call _ _⟩ :: _) _; first | (show GO _ _ _ _ _ (⟨some _, none, .call fn_impl_places_has _⟩ :: _) _; refine go_callp rfl code_impl_places_has.callable (fun H hH => has_ok (by omega)) ?_)) | ((first | apply go_new | apply gq_new | apply gd_new); (next => exact rfl); (next => first | (show Stp _ _ _ _ (.app _ _ _ _) _; exact stp_appI) | (show Stp _ _ _ _ (.bsl _ _ _ _) _; exact stp_bsl) | (show Stp _ _ _ _ (.mks _ _ _ _ _) _; (first | exact stp_mk | exact stp_mkz)) | (show Stp _ _ _ _ (.sl _ _ _ _ _) _; (first | exact stp_from1 | exact stp_from | exact stp_upto))); intro u; try simp only [List.length_cons, List.length_nil, List.nil_append, Nat.zero_add]) | ((first | apply go_is0 | apply gd_is0); (next => exact rfl); (next => first | exact stp_st | exact stp_st21)) | (show GO _ _ _ _ _ (⟨_, some _, _⟩ :: _) _; first | refine go_in (hk := ?_) | refine go_out (hk := ?_) | refine go_void (hk := ?_)) | (show GQ _ _ _ _ _ _ (⟨_, some _, _⟩ :: _) _; first | refine gq_in (hk := ?_) | refine gq_out (hk := ?_) | refine gq_void (hk := ?_)) | (show GK _ _ _ _ (blockK _ _ _); refine gk_past rfl ?_) | (show GC _ _ _ _ _ (.cond _ _ _) _; first | refine gc_yes (h1 := ?_) | refine gc_no (h1 := ?_))))
      have hk := hn (by omega)
      rw [maskTo, if_pos h2] at hk
      exact gk_next hk
    · (repeat (first | with_reducible (first | refine go_nil ?_ | refine gk_seq ?_ | refine gc_seq ?_ | refine gc_reg ?_ | refine gc_skip ?_ | refine gk_block ?_ | refine gc_block ?_ | refine gc_exit ?_ | refine gc_ret ?_ | refine gk_seqret ?_ | refine gk_seqexit ?_ | refine gk_blockret ?_ | refine gk_out ?_ | refine gk_loopret ?_ | refine gk_loopexit ?_ | refine gq_nil ?_ | refine gd_nil ?_) | (with_reducible refine gc_drq ?_; intro _) | (with_reducible refine gc_drw ?_; intro _) | ((first | apply go_is | apply gq_is | apply gd_is); (next => exact rfl); (next => first | (show Stp _ _ _ _ (.mv _) _; exact stp_mv) | (show Stp _ _ _ _ (.ixa _ _ _) _; (first | exact stp_ixa | exact stp_ixa0 | exact stp_ixaz)) | (show Stp _ _ _ _ (.ld _ _ _) _; (first | exact stp_ld | exact stp_ldc1 | exact stp_ldb | exact stp_ldc)) | (show Stp _ _ _ _ (.len _) _; exact stp_len) | (show Stp _ _ _ _ (.bin .add _ _) _; (first | exact stp_addn | exact stp_addnn | exact stp_add | exact stp_addu1 | exact stp_addw)) | (show Stp _ _ _ _ (.bin .sub _ _) _; (first | exact stp_subn | exact stp_sub | exact stp_subu1 | exact stp_subw)) | (show Stp _ _ _ _ (.bin .mul _ _) _; (first | exact stp_mul | exact stp_mulw)) | (show Stp _ _ _ _ (.bin .lss _ _) _; exact stp_lt) | (show Stp _ _ _ _ (.bin .gtr _ _) _; exact stp_gt) | (show Stp _ _ _ _ (.bin .eql _ _) _; exact stp_eq) | (show Stp _ _ _ _ (.bin .neq _ _) _; exact stp_ne) | (show Stp _ _ _ _ (.bin .leq _ _) _; exact stp_le) | (show Stp _ _ _ _ (.bin .geq _ _) _; exact stp_ge) | (show Stp _ _ _ _ (.bin .quo _ _) _; exact stp_quon) | (show Stp _ _ _ _ (.bin .rem _ _) _; exact stp_remn) | (show Stp _ _ _ _ (.un .not _) _; (first | exact stp_notd | exact stp_not)) | (show Stp _ _ _ _ (.un .neg _) _; exact stp_neg) | (show Stp _ _ _ _ (.ext _ _) _; exact stp_ext) | (show Stp _ _ _ _ (.pick _ _ _) _; (first | exact stp_pickt | exact stp_pickf | exact stp_pick)) | (show Stp _ _ _ _ (.beq _ _ _) _; (first | exact stp_beqd | exact stp_bned | exact stp_beq)) | (show Stp _ _ _ _ (.mnmx _ _ _) _; (first | exact stp_max | exact stp_min | exact stp_max3 | exact stp_min3)) | (show Stp _ _ _ _ (.lens _) _; exact stp_lens) | (show Stp _ _ _ _ (.mkf _ _) _; exact stp_mkf) | (show Stp _ _ _ _ (.fld _ _ _ _) _; exact stp_fld) | (show Stp _ _ _ _ (.nilck _) _; exact stp_nilp) | (show Stp _ _ _ _ (.fa _ _) _; exact stp_fa) | (show Stp _ _ _ _ (.bin .xor _ _) _; exact stp_xor) | (show Stp _ _ _ _ (.bin .shr _ _) _; exact stp_shr) | (show Stp _ _ _ _ (.bin .shl _ _) _; exact stp_shl1) | (show Stp _ _ _ _ (.bin .and _ _) _; exact stp_and1) | (show Stp _ _ _ _ (.bin .or _ _) _; exact stp_oru) | (show Stp _ _ _ _ (.un .xor _) _; exact stp_notu) | (show Stp _ _ _ _ (.conv _ _) _; (first | exact stp_convb | exact stp_conv)))) | (show GO _ _ _ _ _ (⟨some _, none, .call _ _⟩ :: _) _; first | (show GO _ _ _ _ _ (⟨some _, none, .call fn_impl_places_has _⟩ :: _) _; refine go_callp rfl code_impl_places_has.callable (fun H hH => has_ok (by omega)) ?_)) | ((first | apply go_new | apply gq_new | apply gd_new); (next => exact rfl); (next => first | (show Stp _ _ _ _ (.app _ _ _ _) _; exact stp_appI) | (show Stp _ _ _ _ (.bsl _ _ _ _) _; exact stp_bsl) | (show Stp _ _ _ _ (.mks _ _ _ _ _) _; (first | exact stp_mk | exact stp_mkz)) | (show Stp _ _ _ _ (.sl _ _ _ _ _) _; (first | exact stp_from1 | exact stp_from | exact stp_upto))); intro u; try simp only [List.length_cons, List.length_nil, List.nil_append, Nat.zero_add]) | ((first | apply go_is0 | apply gd_is0); (next => exact rfl); (next => first | exact stp_st | exact stp_st21)) | (show GO _ _ _ _ _ (⟨_, some _, _⟩ :: _) _; first | refine go_in (hk := ?_) | refine go_out (hk := ?_) | refine go_void (hk := ?_)) | (show GQ _ _ _ _ _ _ (⟨_, some _, _⟩ :: _) _; first | refine gq_in (hk := ?_) | refine gq_out (hk := ?_) | refine gq_void (hk := ?_)) | (show GK _ _ _ _ (blockK _ _ _); refine gk_past rfl ?_) | (show GC _ _ _ _ _ (.cond _ _ _) _; first | refine gc_yes (h1 := ?_) | refine gc_no (h1 := ?_))))
      have hk := hn (by omega)
      rw [maskTo, if_neg h2, Int.add_zero] at hk
      exact gk_next hk
  · (repeat (first | with_reducible (first | refine go_nil ?_ | refine gk_seq ?_ | refine gc_seq ?_ | refine gc_reg ?_ | refine gc_skip ?_ | refine gk_block ?_ | refine gc_block ?_ | refine gc_exit ?_ | refine gc_ret ?_ | refine gk_seqret ?_ | refine gk_seqexit ?_ | refine gk_blockret ?_ | refine gk_out ?_ | refine gk_loopret ?_ | refine gk_loopexit ?_ | refine gq_nil ?_ | refine gd_nil ?_) | (with_reducible refine gc_drq ?_; intro _) | (with_reducible refine gc_drw ?_; intro _) | ((first | apply go_is | apply gq_is | apply gd_is); (next => exact rfl); (next => first | (show Stp _ _ _ _ (.mv _) _; exact stp_mv) | (show Stp _ _ _ _ (.ixa _ _ _) _; (first | exact stp_ixa | exact stp_ixa0 | exact stp_ixaz)) | (show Stp _ _ _ _ (.ld _ _ _) _; (first | exact stp_ld | exact stp_ldc1 | exact stp_ldb | exact stp_ldc)) | (show Stp _ _ _ _ (.len _) _; exact stp_len) | (show Stp _ _ _ _ (.bin .add _ _) _; (first | exact stp_addn | exact stp_addnn | exact stp_add | exact stp_addu1 | exact stp_addw)) | (show Stp _ _ _ _ (.bin .sub _ _) _; (first | exact stp_subn | exact stp_sub | exact stp_subu1 | exact stp_subw)) | (show Stp _ _ _ _ (.bin .mul _ _) _; (first | exact stp_mul | exact stp_mulw)) | (show Stp _ _ _ _ (.bin .lss _ _) _; exact stp_lt) | (show Stp _ _ _ _ (.bin .gtr _ _) _; exact stp_gt) | (show Stp _ _ _ _ (.bin .eql _ _) _; exact stp_eq) | (show Stp _ _ _ _ (.bin .neq _ _) _; exact stp_ne) | (show Stp _ _ _ _ (.bin .leq _ _) _; exact stp_le) | (show Stp _ _ _ _ (.bin .geq _ _) _; exact stp_ge) | (show Stp _ _ _ _ (.bin .quo _ _) _; exact stp_quon) | (show Stp _ _ _ _ (.bin .rem _ _) _; exact stp_remn) | (show Stp _ _ _ _ (.un .not _) _; (first | exact stp_notd | exact stp_not)) | (show Stp _ _ _ _ (.un .neg _) _; exact stp_neg) | (show Stp _ _ _ _ (.ext _ _) _; exact stp_ext) | (show Stp _ _ _ _ (.pick _ _ _) _; (first | exact stp_pickt | exact stp_pickf | exact stp_pick)) | (show Stp _ _ _ _ (.beq _ _ _) _; (first | exact stp_beqd | exact stp_bned | exact stp_beq)) | (show Stp _ _ _ _ (.mnmx _ _ _) _; (first | exact stp_max | exact stp_min | exact stp_max3 | exact stp_min3)) | (show Stp _ _ _ _ (.lens _) _; exact stp_lens) | (show Stp _ _ _ _ (.mkf _ _) _; exact stp_mkf) | (show Stp _ _ _ _ (.fld _ _ _ _) _; exact stp_fld) | (show Stp _ _ _ _ (.nilck _) _; exact stp_nilp) | (show Stp _ _ _ _ (.fa _ _) _; exact stp_fa) | (show Stp _ _ _ _ (.bin .xor _ _) _; exact stp_xor) | (show Stp _ _ _ _ (.bin .shr _ _) _; exact stp_shr) | (show Stp _ _ _ _ (.bin .shl _ _) _; exact stp_shl1) | (show Stp _ _ _ _ (.bin .and _ _) _; exact stp_and1) | (show Stp _ _ _ _ (.bin .or _ _) _; exact stp_oru) | (show Stp _ _ _ _ (.un .xor _) _; exact stp_notu) | (show Stp _ _ _ _ (.conv _ _) _; (first | exact stp_convb | exact stp_conv)))) | (show GO _ _ _ _ _ (⟨some _, none, .call _ _⟩ :: _) _; first | (show GO _ _ _ _ _ (⟨some _, none, .call fn_impl_places_has _⟩ :: _) _; refine go_callp rfl code_impl_places_has.callable (fun H hH => has_ok (by omega)) ?_)) | ((first | apply go_new | apply gq_new | apply gd_new); (next => exact rfl); (next => first | (show Stp _ _ _ _ (.app _ _ _ _) _; exact stp_appI) | (show Stp _ _ _ _ (.bsl _ _ _ _) _; exact stp_bsl) | (show Stp _ _ _ _ (.mks _ _ _ _ _) _; (first | exact stp_mk | exact stp_mkz)) | (show Stp _ _ _ _ (.sl _ _ _ _ _) _; (first | exact stp_from1 | exact stp_from | exact stp_upto))); intro u; try simp only [List.length_cons, List.length_nil, List.nil_append, Nat.zero_add]) | ((first | apply go_is0 | apply gd_is0); (next => exact rfl); (next => first | exact stp_st | exact stp_st21)) | (show GO _ _ _ _ _ (⟨_, some _, _⟩ :: _) _; first | refine go_in (hk := ?_) | refine go_out (hk := ?_) | refine go_void (hk := ?_)) | (show GQ _ _ _ _ _ _ (⟨_, some _, _⟩ :: _) _; first | refine gq_in (hk := ?_) | refine gq_out (hk := ?_) | refine gq_void (hk := ?_)) | (show GK _ _ _ _ (blockK _ _ _); refine gk_past rfl ?_) | (show GC _ _ _ _ _ (.cond _ _ _) _; first | refine gc_yes (h1 := ?_) | refine gc_no (h1 := ?_))))
    have : i = xs.length := by omega
    subst this
    exact gk_ret rfl fun H' hH => ⟨rfl, hH.leE⟩

def sumL : List Int → Int
  | [] => 0
  | x :: l => x + sumL l

def sumI (xs : List Int) : Nat → Int
  | 0 => 0
  | i + 1 => sumI xs i + nth xs i

theorem sumI_cons (x : Int) (xs : List Int) : ∀ i, sumI (x :: xs) (i + 1) = x + sumI xs i
  | 0 => by simp [sumI, nth]
  | i + 1 => by
    rw [sumI, sumI_cons x xs i, sumI]
    have e1 : nth (x :: xs) (i + 1) = nth xs i := by simp [nth]
    rw [e1]; omega

theorem sumI_all : ∀ xs : List Int, sumI xs xs.length = sumL xs
  | [] => rfl
  | x :: xs => by rw [List.length_cons, sumI_cons, sumI_all, sumL]

theorem Data.bd {xs : List Int} (h : Data xs) : Bd 200 xs := by
  intro x hx
  obtain ⟨i, hi, rfl⟩ := List.getElem_of_mem hx
  have := h.2 i hi
  rw [nth_of hi] at this
  exact this

noncomputable instance (b : Int) (xs : List Int) : Decidable (Bd b xs) := Classical.propDecidable _

def nzT (xs : List Int) (i : Nat) : List Int := (xs.take i).filter (fun x => decide (x ≠ 0))

def absL (l : List Int) : List Int := l.map fun x => max x (-x)

theorem nzT_yes {xs : List Int} {i : Nat} (hi : i < xs.length) (h : nth xs i ≠ 0) : nzT xs (i + 1) = nzT xs i ++ [nth xs i] := by
  rw [nth_of hi] at h ⊢
  simp only [nzT, List.take_add_one, List.getElem?_eq_getElem hi, List.filter_append, Option.toList_some]
  simp [h]

theorem nzT_no {xs : List Int} {i : Nat} (hi : i < xs.length) (h : nth xs i = 0) : nzT xs (i + 1) = nzT xs i := by
  rw [nth_of hi] at h
  simp only [nzT, List.take_add_one, List.getElem?_eq_getElem hi, List.filter_append, Option.toList_some]
  simp [h]

theorem nzT_le (xs : List Int) (i : Nat) : (nzT xs i).length ≤ i := by
  unfold nzT
  refine Nat.le_trans (List.length_filter_le _ _) ?_
  simp; omega

theorem absL_length (l : List Int) : (absL l).length = l.length := by simp [absL]

theorem absL_app (l : List Int) (x : Int) : absL (l ++ [x]) = absL l ++ [max x (-x)] := by simp [absL]

def posTo (r l : List Int) : Nat → Int
  | 0 => 0
  | i + 1 => posTo r l i + (if 0 < nth l i then nth r i else 0)

def negTo (r l : List Int) : Nat → Int
  | 0 => 0
  | i + 1 => negTo r l i + (if 0 < nth l i then 0 else nth r i)

theorem posTo_le {r : List Int} {b : Int} (h : Bd b r) (hb : 0 ≤ b) (l : List Int) : ∀ i, -(b * i) ≤ posTo r l i ∧ posTo r l i ≤ b * i
  | 0 => by simp [posTo]
  | i + 1 => by
    have ih := posTo_le h hb l i
    have hn := h.nth hb i
    have e : b * ((i + 1 : Nat) : Int) = b * i + b := by rw [Int.natCast_add, Int.mul_add]; simp
    rw [posTo, e]
    split <;> omega

theorem negTo_le {r : List Int} {b : Int} (h : Bd b r) (hb : 0 ≤ b) (l : List Int) : ∀ i, -(b * i) ≤ negTo r l i ∧ negTo r l i ≤ b * i
  | 0 => by simp [negTo]
  | i + 1 => by
    have ih := negTo_le h hb l i
    have hn := h.nth hb i
    have e : b * ((i + 1 : Nat) : Int) = b * i + b := by rw [Int.natCast_add, Int.mul_add]; simp
    rw [negTo, e]
    split <;> omega

theorem ranksL_bd {xs : List Int} (h : xs.length ≤ 1000) : Bd 10000 (ranksL xs) := by
  intro x hx
  simp only [ranksL, List.mem_map] at hx
  obtain ⟨y, _, rfl⟩ := hx
  have := rank_le xs y
  omega

/-- the bits of the numbers above 0 -/
def Bits (l : List Int) (p : Nat) : Prop := ∀ j, p.testBit j = decide (j < l.length ∧ 0 < nth l j)

theorem Bits.lt {l : List Int} {p : Nat} (h : Bits l p) : p < 2 ^ l.length := by
  apply Nat.lt_pow_two_of_testBit
  intro i hi
  rw [h i]; simp; omega

theorem nth_app_lt {l : List Int} {x : Int} {j : Nat} (h : j < l.length) : nth (l ++ [x]) j = nth l j := by
  simp [nth, List.getElem?_append_left h]

theorem nth_app_eq {l : List Int} {x : Int} : nth (l ++ [x]) l.length = x := by simp [nth]

theorem Bits.yes {l : List Int} {p : Nat} (h : Bits l p) {x : Int} (hx : 0 < x) : Bits (l ++ [x]) (p ||| 2 ^ l.length) := by
  intro j
  rw [Nat.testBit_or, h j, Nat.testBit_two_pow]
  rcases Nat.lt_trichotomy j l.length with hj | rfl | hj
  · rw [nth_app_lt hj]
    have : ¬ l.length = j := by omega
    simp [hj, this]; omega
  · rw [nth_app_eq]; simp [hx]
  · have : ¬ l.length = j := by omega
    have h2 : ¬ j < l.length := by omega
    simp [this, h2]; omega

theorem Bits.no {l : List Int} {p : Nat} (h : Bits l p) {x : Int} (hx : ¬ 0 < x) : Bits (l ++ [x]) p := by
  intro j
  rw [h j]
  rcases Nat.lt_trichotomy j l.length with hj | rfl | hj
  · rw [nth_app_lt hj]
    have : j < (l ++ [x]).length := by simp; omega
    simp [hj]; omega
  · rw [nth_app_eq]; simp [hx]
  · have h2 : ¬ j < l.length := by omega
    simp [h2]; omega

theorem bit_iff {p j : Nat} : p / 2 ^ j % 2 = 1 ↔ p.testBit j = true := by
  rw [Nat.testBit_eq_decide_div_mod_eq]; simp

theorem mask_pos {r l : List Int} {p : Nat} (h : Bits l p) : ∀ i, i ≤ l.length → maskTo r p i = posTo r l i
  | 0, _ => rfl
  | i + 1, hi => by
    rw [maskTo, posTo, mask_pos h i (by omega)]
    have e : (p / 2 ^ i % 2 = 1) ↔ 0 < nth l i := by
      rw [bit_iff, h i]; simp; omega
    simp only [e]

theorem mask_neg {r l : List Int} {p : Nat} (h : Bits l p) (hl : l.length ≤ 60) : ∀ i, i ≤ l.length → maskTo r (18446744073709551615 - p) i = negTo r l i
  | 0, _ => rfl
  | i + 1, hi => by
    rw [maskTo, negTo, mask_neg h hl i (by omega)]
    have hp : p < 2 ^ 64 := Nat.lt_of_lt_of_le h.lt (Nat.pow_le_pow_right (by omega) (by omega))
    have e0 : 18446744073709551615 - p = 2 ^ 64 - (p + 1) := by omega
    have e : ((18446744073709551615 - p) / 2 ^ i % 2 = 1) ↔ ¬ 0 < nth l i := by
      rw [bit_iff, e0, Nat.testBit_two_pow_sub_succ hp, h i]; simp; omega
    simp only [e]
    by_cases hx : 0 < nth l i
    · simp [hx]
    · simp [hx]

def nzL (xs : List Int) : List Int := nzT xs xs.length

noncomputable def signA (xs : List Int) : Int := if Data xs then posTo (ranksL (absL (nzL xs))) (nzL xs) (nzL xs).length else -1

noncomputable def signB (xs : List Int) : Int := if Data xs then negTo (ranksL (absL (nzL xs))) (nzL xs) (nzL xs).length else -1

noncomputable abbrev signX (xs : List Int) : AV := .tuple [.int .i64 (signA xs), .int .i64 (signB xs)]

structure G3 where
  i : Nat
  u : AV
  w : AV
  p : Nat

end Go.Rx.Try
