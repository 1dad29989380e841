import Derived.Test.YticlhfckeoealaaD1
namespace Go.Rx.Try
open Go.Proofs
set_option maxRecDepth 100000
set_option maxHeartbeats 8000000
set_option linter.unusedSimpArgs false
set_option linter.unusedVariables false

theorem total_ok {H : Heap} {a : AV} {xs : List Int} (ha : Ints H a xs) (hl : xs.length ≤ 1000) (hb : Bd 1000000000 xs) :
    ACalls Try.prog fn_laws_total [a] H fun r H' => r = .int .i64 (sumL xs) ∧ H' = H := by
  refine ACalls.val ?_ rfl
  refine code_laws_total.go [.roI a xs.length xs] ⟨⟨rfl, ha⟩, trivial⟩ (by simp) ?_
  unfold mc_laws_total
  (repeat (first | with_reducible (first | refine go_nil ?_ | refine gk_seq ?_ | refine gc_seq ?_ | refine gc_reg ?_ | refine gc_skip ?_ | refine gk_block ?_ | refine gc_block ?_ | refine gc_exit ?_ | refine gc_ret ?_ | refine gk_seqret ?_ | refine gk_seqexit ?_ | refine gk_blockret ?_ | refine gk_out ?_ | refine gk_loopret ?_ | refine gk_loopexit ?_ | refine gq_nil ?_ | refine gd_nil ?_ | refine gr_nil ?_ | refine gc_scope ?_ | refine gk_scope ?_ | refine gk_scoper ?_ | refine gk_scopee ?_) | (with_reducible refine gc_drq ?_; intro _) | (with_reducible first | (refine gc_drw ?_; intro _) | (refine gc_drw2 ?_; intro _)) | (show GO _ _ _ _ _ (⟨some _, none, _⟩ :: _) _; first | refine go_op (hk := ?_) | (refine go_nw (hk := ?_); intro u; try simp only [List.length_cons, List.length_nil, List.nil_append, Nat.zero_add]) | (refine go_np (hk := ?_); intro id)) | (show GQ _ _ _ _ _ _ (⟨some _, none, _⟩ :: _) _; first | refine gq_op (hk := ?_) | (refine gq_nw (hk := ?_); intro u; try simp only [List.length_cons, List.length_nil, List.nil_append, Nat.zero_add])) | (show GD _ _ _ _ _ (⟨some _, none, _⟩ :: _) _; first | refine gd_op (hk := ?_) | (refine gd_nw (hk := ?_); intro u; try simp only [List.length_cons, List.length_nil, List.nil_append, Nat.zero_add])) | (show GR _ _ _ _ _ (⟨some _, none, _⟩ :: _) _; refine gr_op (hk := ?_)) | (show GD2 _ _ _ _ _ _ _ _ _ _ _ _; first | refine gd2_nil rfl ?_ | refine gd2_op (hk := ?_) | (refine gd2_nw (hk := ?_); intro u; try simp only [List.length_cons, List.length_nil, List.nil_append, Nat.zero_add]) | refine gd2_l (hk := ?_) | (refine gd2_bsl rfl rfl ?_; intro u; try simp only [List.length_cons, List.length_nil, List.nil_append, Nat.zero_add]) | (refine gd2_a (hk := ?_); intro u; try simp only [List.length_cons, List.length_nil, List.nil_append, Nat.zero_add])) | (show GO _ _ _ _ _ (⟨none, none, _⟩ :: _) _; refine go_st (hk := ?_)) | (show GD _ _ _ _ _ (⟨none, none, _⟩ :: _) _; refine gd_st (hk := ?_)) | (show GR _ _ _ _ _ (⟨none, none, _⟩ :: _) _; refine gr_st (hk := ?_)) | (show GO _ _ _ _ _ (⟨_, some _, _⟩ :: _) _; first | refine go_in (hk := ?_) | refine go_out (hk := ?_) | refine go_void (hk := ?_)) | (show GQ _ _ _ _ _ _ (⟨_, some _, _⟩ :: _) _; first | refine gq_in (hk := ?_) | refine gq_out (hk := ?_) | refine gq_void (hk := ?_)) | (show GK _ _ _ _ (blockK _ _ _); refine gk_past rfl ?_) | (show GC _ _ _ _ _ (.cond _ _ _) _; first | refine gc_yes (h1 := ?_) | refine gc_no (h1 := ?_))))
  refine gc_up xs.length (fun i => [(0, a), (3, .int .i64 (sumI xs i)), (4, .int .i64 (i : Int))]) (fun i => [.roI a xs.length xs]) (hb := ?_)
  intro i hi I ν m hn
  have hm := sumI_le hb (by omega) i
  have hq := hb.nth (by omega) i
  (repeat (first | with_reducible (first | refine go_nil ?_ | refine gk_seq ?_ | refine gc_seq ?_ | refine gc_reg ?_ | refine gc_skip ?_ | refine gk_block ?_ | refine gc_block ?_ | refine gc_exit ?_ | refine gc_ret ?_ | refine gk_seqret ?_ | refine gk_seqexit ?_ | refine gk_blockret ?_ | refine gk_out ?_ | refine gk_loopret ?_ | refine gk_loopexit ?_ | refine gq_nil ?_ | refine gd_nil ?_ | refine gr_nil ?_ | refine gc_scope ?_ | refine gk_scope ?_ | refine gk_scoper ?_ | refine gk_scopee ?_) | (with_reducible refine gc_drq ?_; intro _) | (with_reducible first | (refine gc_drw ?_; intro _) | (refine gc_drw2 ?_; intro _)) | (show GO _ _ _ _ _ (⟨some _, none, _⟩ :: _) _; first | refine go_op (hk := ?_) | (refine go_nw (hk := ?_); intro u; try simp only [List.length_cons, List.length_nil, List.nil_append, Nat.zero_add]) | (refine go_np (hk := ?_); intro id)) | (show GQ _ _ _ _ _ _ (⟨some _, none, _⟩ :: _) _; first | refine gq_op (hk := ?_) | (refine gq_nw (hk := ?_); intro u; try simp only [List.length_cons, List.length_nil, List.nil_append, Nat.zero_add])) | (show GD _ _ _ _ _ (⟨some _, none, _⟩ :: _) _; first | refine gd_op (hk := ?_) | (refine gd_nw (hk := ?_); intro u; try simp only [List.length_cons, List.length_nil, List.nil_append, Nat.zero_add])) | (show GR _ _ _ _ _ (⟨some _, none, _⟩ :: _) _; refine gr_op (hk := ?_)) | (show GD2 _ _ _ _ _ _ _ _ _ _ _ _; first | refine gd2_nil rfl ?_ | refine gd2_op (hk := ?_) | (refine gd2_nw (hk := ?_); intro u; try simp only [List.length_cons, List.length_nil, List.nil_append, Nat.zero_add]) | refine gd2_l (hk := ?_) | (refine gd2_bsl rfl rfl ?_; intro u; try simp only [List.length_cons, List.length_nil, List.nil_append, Nat.zero_add]) | (refine gd2_a (hk := ?_); intro u; try simp only [List.length_cons, List.length_nil, List.nil_append, Nat.zero_add])) | (show GO _ _ _ _ _ (⟨none, none, _⟩ :: _) _; refine go_st (hk := ?_)) | (show GD _ _ _ _ _ (⟨none, none, _⟩ :: _) _; refine gd_st (hk := ?_)) | (show GR _ _ _ _ _ (⟨none, none, _⟩ :: _) _; refine gr_st (hk := ?_)) | (show GO _ _ _ _ _ (⟨_, some _, _⟩ :: _) _; first | refine go_in (hk := ?_) | refine go_out (hk := ?_) | refine go_void (hk := ?_)) | (show GQ _ _ _ _ _ _ (⟨_, some _, _⟩ :: _) _; first | refine gq_in (hk := ?_) | refine gq_out (hk := ?_) | refine gq_void (hk := ?_)) | (show GK _ _ _ _ (blockK _ _ _); refine gk_past rfl ?_) | (show GC _ _ _ _ _ (.cond _ _ _) _; first | refine gc_yes (h1 := ?_) | refine gc_no (h1 := ?_))))
  refine gc_cond rfl (fun h => ?_) (fun h => ?_)
  · (repeat (first | with_reducible (first | refine go_nil ?_ | refine gk_seq ?_ | refine gc_seq ?_ | refine gc_reg ?_ | refine gc_skip ?_ | refine gk_block ?_ | refine gc_block ?_ | refine gc_exit ?_ | refine gc_ret ?_ | refine gk_seqret ?_ | refine gk_seqexit ?_ | refine gk_blockret ?_ | refine gk_out ?_ | refine gk_loopret ?_ | refine gk_loopexit ?_ | refine gq_nil ?_ | refine gd_nil ?_ | refine gr_nil ?_ | refine gc_scope ?_ | refine gk_scope ?_ | refine gk_scoper ?_ | refine gk_scopee ?_) | (with_reducible refine gc_drq ?_; intro _) | (with_reducible first | (refine gc_drw ?_; intro _) | (refine gc_drw2 ?_; intro _)) | (show GO _ _ _ _ _ (⟨some _, none, _⟩ :: _) _; first | refine go_op (hk := ?_) | (refine go_nw (hk := ?_); intro u; try simp only [List.length_cons, List.length_nil, List.nil_append, Nat.zero_add]) | (refine go_np (hk := ?_); intro id)) | (show GQ _ _ _ _ _ _ (⟨some _, none, _⟩ :: _) _; first | refine gq_op (hk := ?_) | (refine gq_nw (hk := ?_); intro u; try simp only [List.length_cons, List.length_nil, List.nil_append, Nat.zero_add])) | (show GD _ _ _ _ _ (⟨some _, none, _⟩ :: _) _; first | refine gd_op (hk := ?_) | (refine gd_nw (hk := ?_); intro u; try simp only [List.length_cons, List.length_nil, List.nil_append, Nat.zero_add])) | (show GR _ _ _ _ _ (⟨some _, none, _⟩ :: _) _; refine gr_op (hk := ?_)) | (show GD2 _ _ _ _ _ _ _ _ _ _ _ _; first | refine gd2_nil rfl ?_ | refine gd2_op (hk := ?_) | (refine gd2_nw (hk := ?_); intro u; try simp only [List.length_cons, List.length_nil, List.nil_append, Nat.zero_add]) | refine gd2_l (hk := ?_) | (refine gd2_bsl rfl rfl ?_; intro u; try simp only [List.length_cons, List.length_nil, List.nil_append, Nat.zero_add]) | (refine gd2_a (hk := ?_); intro u; try simp only [List.length_cons, List.length_nil, List.nil_append, Nat.zero_add])) | (show GO _ _ _ _ _ (⟨none, none, _⟩ :: _) _; refine go_st (hk := ?_)) | (show GD _ _ _ _ _ (⟨none, none, _⟩ :: _) _; refine gd_st (hk := ?_)) | (show GR _ _ _ _ _ (⟨none, none, _⟩ :: _) _; refine gr_st (hk := ?_)) | (show GO _ _ _ _ _ (⟨_, some _, _⟩ :: _) _; first | refine go_in (hk := ?_) | refine go_out (hk := ?_) | refine go_void (hk := ?_)) | (show GQ _ _ _ _ _ _ (⟨_, some _, _⟩ :: _) _; first | refine gq_in (hk := ?_) | refine gq_out (hk := ?_) | refine gq_void (hk := ?_)) | (show GK _ _ _ _ (blockK _ _ _); refine gk_past rfl ?_) | (show GC _ _ _ _ _ (.cond _ _ _) _; first | refine gc_yes (h1 := ?_) | refine gc_no (h1 := ?_))))
    exact gk_next (hn (by omega))
  · (repeat (first | with_reducible (first | refine go_nil ?_ | refine gk_seq ?_ | refine gc_seq ?_ | refine gc_reg ?_ | refine gc_skip ?_ | refine gk_block ?_ | refine gc_block ?_ | refine gc_exit ?_ | refine gc_ret ?_ | refine gk_seqret ?_ | refine gk_seqexit ?_ | refine gk_blockret ?_ | refine gk_out ?_ | refine gk_loopret ?_ | refine gk_loopexit ?_ | refine gq_nil ?_ | refine gd_nil ?_ | refine gr_nil ?_ | refine gc_scope ?_ | refine gk_scope ?_ | refine gk_scoper ?_ | refine gk_scopee ?_) | (with_reducible refine gc_drq ?_; intro _) | (with_reducible first | (refine gc_drw ?_; intro _) | (refine gc_drw2 ?_; intro _)) | (show GO _ _ _ _ _ (⟨some _, none, _⟩ :: _) _; first | refine go_op (hk := ?_) | (refine go_nw (hk := ?_); intro u; try simp only [List.length_cons, List.length_nil, List.nil_append, Nat.zero_add]) | (refine go_np (hk := ?_); intro id)) | (show GQ _ _ _ _ _ _ (⟨some _, none, _⟩ :: _) _; first | refine gq_op (hk := ?_) | (refine gq_nw (hk := ?_); intro u; try simp only [List.length_cons, List.length_nil, List.nil_append, Nat.zero_add])) | (show GD _ _ _ _ _ (⟨some _, none, _⟩ :: _) _; first | refine gd_op (hk := ?_) | (refine gd_nw (hk := ?_); intro u; try simp only [List.length_cons, List.length_nil, List.nil_append, Nat.zero_add])) | (show GR _ _ _ _ _ (⟨some _, none, _⟩ :: _) _; refine gr_op (hk := ?_)) | (show GD2 _ _ _ _ _ _ _ _ _ _ _ _; first | refine gd2_nil rfl ?_ | refine gd2_op (hk := ?_) | (refine gd2_nw (hk := ?_); intro u; try simp only [List.length_cons, List.length_nil, List.nil_append, Nat.zero_add]) | refine gd2_l (hk := ?_) | (refine gd2_bsl rfl rfl ?_; intro u; try simp only [List.length_cons, List.length_nil, List.nil_append, Nat.zero_add]) | (refine gd2_a (hk := ?_); intro u; try simp only [List.length_cons, List.length_nil, List.nil_append, Nat.zero_add])) | (show GO _ _ _ _ _ (⟨none, none, _⟩ :: _) _; refine go_st (hk := ?_)) | (show GD _ _ _ _ _ (⟨none, none, _⟩ :: _) _; refine gd_st (hk := ?_)) | (show GR _ _ _ _ _ (⟨none, none, _⟩ :: _) _; refine gr_st (hk := ?_)) | (show GO _ _ _ _ _ (⟨_, some _, _⟩ :: _) _; first | refine go_in (hk := ?_) | refine go_out (hk := ?_) | refine go_void (hk := ?_)) | (show GQ _ _ _ _ _ _ (⟨_, some _, _⟩ :: _) _; first | refine gq_in (hk := ?_) | refine gq_out (hk := ?_) | refine gq_void (hk := ?_)) | (show GK _ _ _ _ (blockK _ _ _); refine gk_past rfl ?_) | (show GC _ _ _ _ _ (.cond _ _ _) _; first | refine gc_yes (h1 := ?_) | refine gc_no (h1 := ?_))))
    have : i = xs.length := by omega
    subst this
    refine gk_ret rfl fun H' hH => ⟨?_, hH.leE⟩
    rw [sumI_all]; rfl

def factN : Nat → Nat
  | 0 => 1
  | n + 1 => (n + 1) * factN n

theorem factN_le : ∀ n, n < 13 → factN n ≤ 479001600 := by decide

theorem product_ok {H : Heap} {n : Nat} (hn : n ≤ 12) : ACalls Try.prog fn_laws_product [.int .i64 (n : Int)] H fun r H' => r = .int .i64 (factN n : Int) ∧ H' = H := by
  refine ACalls.val ?_ rfl
  refine code_laws_product.go [] trivial (by simp) ?_
  unfold mc_laws_product
  (repeat (first | with_reducible (first | refine go_nil ?_ | refine gk_seq ?_ | refine gc_seq ?_ | refine gc_reg ?_ | refine gc_skip ?_ | refine gk_block ?_ | refine gc_block ?_ | refine gc_exit ?_ | refine gc_ret ?_ | refine gk_seqret ?_ | refine gk_seqexit ?_ | refine gk_blockret ?_ | refine gk_out ?_ | refine gk_loopret ?_ | refine gk_loopexit ?_ | refine gq_nil ?_ | refine gd_nil ?_ | refine gr_nil ?_ | refine gc_scope ?_ | refine gk_scope ?_ | refine gk_scoper ?_ | refine gk_scopee ?_) | (with_reducible refine gc_drq ?_; intro _) | (with_reducible first | (refine gc_drw ?_; intro _) | (refine gc_drw2 ?_; intro _)) | (show GO _ _ _ _ _ (⟨some _, none, _⟩ :: _) _; first | refine go_op (hk := ?_) | (refine go_nw (hk := ?_); intro u; try simp only [List.length_cons, List.length_nil, List.nil_append, Nat.zero_add]) | (refine go_np (hk := ?_); intro id)) | (show GQ _ _ _ _ _ _ (⟨some _, none, _⟩ :: _) _; first | refine gq_op (hk := ?_) | (refine gq_nw (hk := ?_); intro u; try simp only [List.length_cons, List.length_nil, List.nil_append, Nat.zero_add])) | (show GD _ _ _ _ _ (⟨some _, none, _⟩ :: _) _; first | refine gd_op (hk := ?_) | (refine gd_nw (hk := ?_); intro u; try simp only [List.length_cons, List.length_nil, List.nil_append, Nat.zero_add])) | (show GR _ _ _ _ _ (⟨some _, none, _⟩ :: _) _; refine gr_op (hk := ?_)) | (show GD2 _ _ _ _ _ _ _ _ _ _ _ _; first | refine gd2_nil rfl ?_ | refine gd2_op (hk := ?_) | (refine gd2_nw (hk := ?_); intro u; try simp only [List.length_cons, List.length_nil, List.nil_append, Nat.zero_add]) | refine gd2_l (hk := ?_) | (refine gd2_bsl rfl rfl ?_; intro u; try simp only [List.length_cons, List.length_nil, List.nil_append, Nat.zero_add]) | (refine gd2_a (hk := ?_); intro u; try simp only [List.length_cons, List.length_nil, List.nil_append, Nat.zero_add])) | (show GO _ _ _ _ _ (⟨none, none, _⟩ :: _) _; refine go_st (hk := ?_)) | (show GD _ _ _ _ _ (⟨none, none, _⟩ :: _) _; refine gd_st (hk := ?_)) | (show GR _ _ _ _ _ (⟨none, none, _⟩ :: _) _; refine gr_st (hk := ?_)) | (show GO _ _ _ _ _ (⟨_, some _, _⟩ :: _) _; first | refine go_in (hk := ?_) | refine go_out (hk := ?_) | refine go_void (hk := ?_)) | (show GQ _ _ _ _ _ _ (⟨_, some _, _⟩ :: _) _; first | refine gq_in (hk := ?_) | refine gq_out (hk := ?_) | refine gq_void (hk := ?_)) | (show GK _ _ _ _ (blockK _ _ _); refine gk_past rfl ?_) | (show GC _ _ _ _ _ (.cond _ _ _) _; first | refine gc_yes (h1 := ?_) | refine gc_no (h1 := ?_))))
  refine gc_up (n - 1) (fun i => [(0, .int .i64 (n : Int)), (3, .int .i64 (factN (i + 1) : Nat)), (4, .int .i64 ((i + 2 : Nat) : Int))]) (fun i => []) (hb := ?_)
  intro i hi I ν m hk
  (repeat (first | with_reducible (first | refine go_nil ?_ | refine gk_seq ?_ | refine gc_seq ?_ | refine gc_reg ?_ | refine gc_skip ?_ | refine gk_block ?_ | refine gc_block ?_ | refine gc_exit ?_ | refine gc_ret ?_ | refine gk_seqret ?_ | refine gk_seqexit ?_ | refine gk_blockret ?_ | refine gk_out ?_ | refine gk_loopret ?_ | refine gk_loopexit ?_ | refine gq_nil ?_ | refine gd_nil ?_ | refine gr_nil ?_ | refine gc_scope ?_ | refine gk_scope ?_ | refine gk_scoper ?_ | refine gk_scopee ?_) | (with_reducible refine gc_drq ?_; intro _) | (with_reducible first | (refine gc_drw ?_; intro _) | (refine gc_drw2 ?_; intro _)) | (show GO _ _ _ _ _ (⟨some _, none, _⟩ :: _) _; first | refine go_op (hk := ?_) | (refine go_nw (hk := ?_); intro u; try simp only [List.length_cons, List.length_nil, List.nil_append, Nat.zero_add]) | (refine go_np (hk := ?_); intro id)) | (show GQ _ _ _ _ _ _ (⟨some _, none, _⟩ :: _) _; first | refine gq_op (hk := ?_) | (refine gq_nw (hk := ?_); intro u; try simp only [List.length_cons, List.length_nil, List.nil_append, Nat.zero_add])) | (show GD _ _ _ _ _ (⟨some _, none, _⟩ :: _) _; first | refine gd_op (hk := ?_) | (refine gd_nw (hk := ?_); intro u; try simp only [List.length_cons, List.length_nil, List.nil_append, Nat.zero_add])) | (show GR _ _ _ _ _ (⟨some _, none, _⟩ :: _) _; refine gr_op (hk := ?_)) | (show GD2 _ _ _ _ _ _ _ _ _ _ _ _; first | refine gd2_nil rfl ?_ | refine gd2_op (hk := ?_) | (refine gd2_nw (hk := ?_); intro u; try simp only [List.length_cons, List.length_nil, List.nil_append, Nat.zero_add]) | refine gd2_l (hk := ?_) | (refine gd2_bsl rfl rfl ?_; intro u; try simp only [List.length_cons, List.length_nil, List.nil_append, Nat.zero_add]) | (refine gd2_a (hk := ?_); intro u; try simp only [List.length_cons, List.length_nil, List.nil_append, Nat.zero_add])) | (show GO _ _ _ _ _ (⟨none, none, _⟩ :: _) _; refine go_st (hk := ?_)) | (show GD _ _ _ _ _ (⟨none, none, _⟩ :: _) _; refine gd_st (hk := ?_)) | (show GR _ _ _ _ _ (⟨none, none, _⟩ :: _) _; refine gr_st (hk := ?_)) | (show GO _ _ _ _ _ (⟨_, some _, _⟩ :: _) _; first | refine go_in (hk := ?_) | refine go_out (hk := ?_) | refine go_void (hk := ?_)) | (show GQ _ _ _ _ _ _ (⟨_, some _, _⟩ :: _) _; first | refine gq_in (hk := ?_) | refine gq_out (hk := ?_) | refine gq_void (hk := ?_)) | (show GK _ _ _ _ (blockK _ _ _); refine gk_past rfl ?_) | (show GC _ _ _ _ _ (.cond _ _ _) _; first | refine gc_yes (h1 := ?_) | refine gc_no (h1 := ?_))))
  refine gc_cond rfl (fun h => ?_) (fun h => ?_)
  · have h1 := factN_le (i + 1) (by omega)
    have h2 := factN_le (i + 2) (by omega)
    have e : (factN (i + 1) : Int) * ((i + 2 : Nat) : Int) = ((factN (i + 2) : Nat) : Int) := by
      show _ = (((i + 1 + 1) * factN (i + 1) : Nat) : Int)
      rw [Int.natCast_mul, Int.mul_comm]
    (repeat (first | with_reducible (first | refine go_nil ?_ | refine gk_seq ?_ | refine gc_seq ?_ | refine gc_reg ?_ | refine gc_skip ?_ | refine gk_block ?_ | refine gc_block ?_ | refine gc_exit ?_ | refine gc_ret ?_ | refine gk_seqret ?_ | refine gk_seqexit ?_ | refine gk_blockret ?_ | refine gk_out ?_ | refine gk_loopret ?_ | refine gk_loopexit ?_ | refine gq_nil ?_ | refine gd_nil ?_ | refine gr_nil ?_ | refine gc_scope ?_ | refine gk_scope ?_ | refine gk_scoper ?_ | refine gk_scopee ?_) | (with_reducible refine gc_drq ?_; intro _) | (with_reducible first | (refine gc_drw ?_; intro _) | (refine gc_drw2 ?_; intro _)) | (show GO _ _ _ _ _ (⟨some _, none, _⟩ :: _) _; first | refine go_op (hk := ?_) | (refine go_nw (hk := ?_); intro u; try simp only [List.length_cons, List.length_nil, List.nil_append, Nat.zero_add]) | (refine go_np (hk := ?_); intro id)) | (show GQ _ _ _ _ _ _ (⟨some _, none, _⟩ :: _) _; first | refine gq_op (hk := ?_) | (refine gq_nw (hk := ?_); intro u; try simp only [List.length_cons, List.length_nil, List.nil_append, Nat.zero_add])) | (show GD _ _ _ _ _ (⟨some _, none, _⟩ :: _) _; first | refine gd_op (hk := ?_) | (refine gd_nw (hk := ?_); intro u; try simp only [List.length_cons, List.length_nil, List.nil_append, Nat.zero_add])) | (show GR _ _ _ _ _ (⟨some _, none, _⟩ :: _) _; refine gr_op (hk := ?_)) | (show GD2 _ _ _ _ _ _ _ _ _ _ _ _; first | refine gd2_nil rfl ?_ | refine gd2_op (hk := ?_) | (refine gd2_nw (hk := ?_); intro u; try simp only [List.length_cons, List.length_nil, List.nil_append, Nat.zero_add]) | refine gd2_l (hk := ?_) | (refine gd2_bsl rfl rfl ?_; intro u; try simp only [List.length_cons, List.length_nil, List.nil_append, Nat.zero_add]) | (refine gd2_a (hk := ?_); intro u; try simp only [List.length_cons, List.length_nil, List.nil_append, Nat.zero_add])) | (show GO _ _ _ _ _ (⟨none, none, _⟩ :: _) _; refine go_st (hk := ?_)) | (show GD _ _ _ _ _ (⟨none, none, _⟩ :: _) _; refine gd_st (hk := ?_)) | (show GR _ _ _ _ _ (⟨none, none, _⟩ :: _) _; refine gr_st (hk := ?_)) | (show GO _ _ _ _ _ (⟨_, some _, _⟩ :: _) _; first | refine go_in (hk := ?_) | refine go_out (hk := ?_) | refine go_void (hk := ?_)) | (show GQ _ _ _ _ _ _ (⟨_, some _, _⟩ :: _) _; first | refine gq_in (hk := ?_) | refine gq_out (hk := ?_) | refine gq_void (hk := ?_)) | (show GK _ _ _ _ (blockK _ _ _); refine gk_past rfl ?_) | (show GC _ _ _ _ _ (.cond _ _ _) _; first | refine gc_yes (h1 := ?_) | refine gc_no (h1 := ?_))))
    rw [e]
    exact gk_next (hk (by omega))
  · (repeat (first | with_reducible (first | refine go_nil ?_ | refine gk_seq ?_ | refine gc_seq ?_ | refine gc_reg ?_ | refine gc_skip ?_ | refine gk_block ?_ | refine gc_block ?_ | refine gc_exit ?_ | refine gc_ret ?_ | refine gk_seqret ?_ | refine gk_seqexit ?_ | refine gk_blockret ?_ | refine gk_out ?_ | refine gk_loopret ?_ | refine gk_loopexit ?_ | refine gq_nil ?_ | refine gd_nil ?_ | refine gr_nil ?_ | refine gc_scope ?_ | refine gk_scope ?_ | refine gk_scoper ?_ | refine gk_scopee ?_) | (with_reducible refine gc_drq ?_; intro _) | (with_reducible first | (refine gc_drw ?_; intro _) | (refine gc_drw2 ?_; intro _)) | (show GO _ _ _ _ _ (⟨some _, none, _⟩ :: _) _; first | refine go_op (hk := ?_) | (refine go_nw (hk := ?_); intro u; try simp only [List.length_cons, List.length_nil, List.nil_append, Nat.zero_add]) | (refine go_np (hk := ?_); intro id)) | (show GQ _ _ _ _ _ _ (⟨some _, none, _⟩ :: _) _; first | refine gq_op (hk := ?_) | (refine gq_nw (hk := ?_); intro u; try simp only [List.length_cons, List.length_nil, List.nil_append, Nat.zero_add])) | (show GD _ _ _ _ _ (⟨some _, none, _⟩ :: _) _; first | refine gd_op (hk := ?_) | (refine gd_nw (hk := ?_); intro u; try simp only [List.length_cons, List.length_nil, List.nil_append, Nat.zero_add])) | (show GR _ _ _ _ _ (⟨some _, none, _⟩ :: _) _; refine gr_op (hk := ?_)) | (show GD2 _ _ _ _ _ _ _ _ _ _ _ _; first | refine gd2_nil rfl ?_ | refine gd2_op (hk := ?_) | (refine gd2_nw (hk := ?_); intro u; try simp only [List.length_cons, List.length_nil, List.nil_append, Nat.zero_add]) | refine gd2_l (hk := ?_) | (refine gd2_bsl rfl rfl ?_; intro u; try simp only [List.length_cons, List.length_nil, List.nil_append, Nat.zero_add]) | (refine gd2_a (hk := ?_); intro u; try simp only [List.length_cons, List.length_nil, List.nil_append, Nat.zero_add])) | (show GO _ _ _ _ _ (⟨none, none, _⟩ :: _) _; refine go_st (hk := ?_)) | (show GD _ _ _ _ _ (⟨none, none, _⟩ :: _) _; refine gd_st (hk := ?_)) | (show GR _ _ _ _ _ (⟨none, none, _⟩ :: _) _; refine gr_st (hk := ?_)) | (show GO _ _ _ _ _ (⟨_, some _, _⟩ :: _) _; first | refine go_in (hk := ?_) | refine go_out (hk := ?_) | refine go_void (hk := ?_)) | (show GQ _ _ _ _ _ _ (⟨_, some _, _⟩ :: _) _; first | refine gq_in (hk := ?_) | refine gq_out (hk := ?_) | refine gq_void (hk := ?_)) | (show GK _ _ _ _ (blockK _ _ _); refine gk_past rfl ?_) | (show GC _ _ _ _ _ (.cond _ _ _) _; first | refine gc_yes (h1 := ?_) | refine gc_no (h1 := ?_))))
    have : i = n - 1 := by omega
    subst this
    refine gk_ret rfl fun H' hH => ⟨?_, hH.leE⟩
    rcases Nat.eq_zero_or_pos n with rfl | h0
    · rfl
    · have e : n - 1 + 1 = n := by omega
      rw [e]; rfl

theorem bytes_of {bs : List Int} (h : ∀ x ∈ bs, (Lit.int .u8 x).wf = true) (i : Nat) : 0 ≤ nth bs i ∧ nth bs i ≤ 255 := by
  by_cases hi : i < bs.length
  · have := h _ (nth_mem hi)
    simp [Lit.wf, IntKind.min, IntKind.max, IntKind.signed, IntKind.bits] at this
    omega
  · have : nth bs i = 0 := by simp [nth, Nat.le_of_not_lt hi]
    omega

theorem Data.app {xs ys : List Int} (h : Samples xs ys) : Data (xs ++ ys) := by
  obtain ⟨⟨h1, h2⟩, h3, h4, h5⟩ := h
  refine ⟨by simp; omega, fun i hi => ?_⟩
  by_cases h6 : i < xs.length
  · have : nth (xs ++ ys) i = nth xs i := by simp [nth, List.getElem?_append_left h6]
    rw [this]; exact h1.2 i h6
  · have : nth (xs ++ ys) i = nth ys (i - xs.length) := by simp [nth, List.getElem?_append_right (by omega : xs.length ≤ i)]
    rw [this]; exact h2.2 _ (by simp at hi; omega)

def Up (l : List Int) : Prop := l.Pairwise (· ≤ ·)

theorem Up.le {l : List Int} (h : Up l) {i j : Nat} (hij : i ≤ j) (hj : j < l.length) : nth l i ≤ nth l j := by
  rcases Nat.lt_or_ge i j with h1 | h1
  · rw [nth_of (by omega), nth_of hj]
    exact List.pairwise_iff_getElem.1 h i j (by omega) hj h1
  · have : i = j := by omega
    subst this; exact Int.le_refl _

/-- how many sets of k of n, out of a power -/
def cb (n k : Nat) : Nat := 4294967297 ^ n / 4294967296 ^ k % 4294967296

def sumN (f : Nat → Nat) : Nat → Nat
  | 0 => 0
  | n + 1 => sumN f n + f n

theorem sumN_le {f : Nat → Nat} {B : Nat} : ∀ {n : Nat}, (∀ j, j < n → f j ≤ B) → sumN f n ≤ n * B
  | 0, _ => by simp [sumN]
  | n + 1, h => by
    have h1 := sumN_le (f := f) (B := B) (n := n) fun j hj => h j (by omega)
    have h2 := h n (by omega)
    simp only [sumN, Nat.succ_mul]; omega

theorem sumN_congr {f g : Nat → Nat} : ∀ {n : Nat}, (∀ j, j < n → f j = g j) → sumN f n = sumN g n
  | 0, _ => by simp [sumN]
  | n + 1, h => by
    simp only [sumN, sumN_congr (f := f) (g := g) (n := n) fun j hj => h j (by omega), h n (by omega)]

/-- how many sets of k of n -/
def chs (n : Nat) : Nat → Int
  | 0 => 1
  | i + 1 => chs n i * ((n : Int) - (i : Int)) / ((i + 1 : Nat) : Int)

theorem chs_facts : ∀ n, n < 33 → ∀ i, i < 33 → (0 ≤ chs n i ∧ chs n i ≤ 1000000000) ∧ 0 ≤ chs n i * ((n : Int) - (i : Int)) ∧ chs n i * ((n : Int) - (i : Int)) ≤ 100000000000 ∧ (n < i → chs n i = 0) := by decide +kernel

theorem implChoose_ok {H : Heap} {n k : Nat} (hn : n ≤ 32) (hk : k ≤ 32) : ACalls Try.prog fn_impl_choose [.int .i64 (n : Int), .int .i64 (k : Int)] H fun r H' => r = .int .i64 (chs n k) ∧ H' = H := by
  refine ACalls.val ?_ rfl
  refine code_impl_choose.go [] trivial (by simp) ?_
  unfold mc_impl_choose
  (repeat (first | with_reducible (first | refine go_nil ?_ | refine gk_seq ?_ | refine gc_seq ?_ | refine gc_reg ?_ | refine gc_skip ?_ | refine gk_block ?_ | refine gc_block ?_ | refine gc_exit ?_ | refine gc_ret ?_ | refine gk_seqret ?_ | refine gk_seqexit ?_ | refine gk_blockret ?_ | refine gk_out ?_ | refine gk_loopret ?_ | refine gk_loopexit ?_ | refine gq_nil ?_ | refine gd_nil ?_ | refine gr_nil ?_ | refine gc_scope ?_ | refine gk_scope ?_ | refine gk_scoper ?_ | refine gk_scopee ?_) | (with_reducible refine gc_drq ?_; intro _) | (with_reducible first | (refine gc_drw ?_; intro _) | (refine gc_drw2 ?_; intro _)) | (show GO _ _ _ _ _ (⟨some _, none, _⟩ :: _) _; first | refine go_op (hk := ?_) | (refine go_nw (hk := ?_); intro u; try simp only [List.length_cons, List.length_nil, List.nil_append, Nat.zero_add]) | (refine go_np (hk := ?_); intro id)) | (show GQ _ _ _ _ _ _ (⟨some _, none, _⟩ :: _) _; first | refine gq_op (hk := ?_) | (refine gq_nw (hk := ?_); intro u; try simp only [List.length_cons, List.length_nil, List.nil_append, Nat.zero_add])) | (show GD _ _ _ _ _ (⟨some _, none, _⟩ :: _) _; first | refine gd_op (hk := ?_) | (refine gd_nw (hk := ?_); intro u; try simp only [List.length_cons, List.length_nil, List.nil_append, Nat.zero_add])) | (show GR _ _ _ _ _ (⟨some _, none, _⟩ :: _) _; refine gr_op (hk := ?_)) | (show GD2 _ _ _ _ _ _ _ _ _ _ _ _; first | refine gd2_nil rfl ?_ | refine gd2_op (hk := ?_) | (refine gd2_nw (hk := ?_); intro u; try simp only [List.length_cons, List.length_nil, List.nil_append, Nat.zero_add]) | refine gd2_l (hk := ?_) | (refine gd2_bsl rfl rfl ?_; intro u; try simp only [List.length_cons, List.length_nil, List.nil_append, Nat.zero_add]) | (refine gd2_a (hk := ?_); intro u; try simp only [List.length_cons, List.length_nil, List.nil_append, Nat.zero_add])) | (show GO _ _ _ _ _ (⟨none, none, _⟩ :: _) _; refine go_st (hk := ?_)) | (show GD _ _ _ _ _ (⟨none, none, _⟩ :: _) _; refine gd_st (hk := ?_)) | (show GR _ _ _ _ _ (⟨none, none, _⟩ :: _) _; refine gr_st (hk := ?_)) | (show GO _ _ _ _ _ (⟨_, some _, _⟩ :: _) _; first | refine go_in (hk := ?_) | refine go_out (hk := ?_) | refine go_void (hk := ?_)) | (show GQ _ _ _ _ _ _ (⟨_, some _, _⟩ :: _) _; first | refine gq_in (hk := ?_) | refine gq_out (hk := ?_) | refine gq_void (hk := ?_)) | (show GK _ _ _ _ (blockK _ _ _); refine gk_past rfl ?_) | (show GC _ _ _ _ _ (.cond _ _ _) _; first | refine gc_yes (h1 := ?_) | refine gc_no (h1 := ?_))))
  refine gc_up k (fun i => [(0, .int .i64 (n : Int)), (5, .int .i64 (chs n i)), (7, .int .i64 (k : Int)), (8, .int .i64 (i : Int))]) (fun _ => []) (hb := ?_)
  intro i hi I ν m hk'
  have f := chs_facts n (by omega) i (by omega)
  (repeat (first | with_reducible (first | refine go_nil ?_ | refine gk_seq ?_ | refine gc_seq ?_ | refine gc_reg ?_ | refine gc_skip ?_ | refine gk_block ?_ | refine gc_block ?_ | refine gc_exit ?_ | refine gc_ret ?_ | refine gk_seqret ?_ | refine gk_seqexit ?_ | refine gk_blockret ?_ | refine gk_out ?_ | refine gk_loopret ?_ | refine gk_loopexit ?_ | refine gq_nil ?_ | refine gd_nil ?_ | refine gr_nil ?_ | refine gc_scope ?_ | refine gk_scope ?_ | refine gk_scoper ?_ | refine gk_scopee ?_) | (with_reducible refine gc_drq ?_; intro _) | (with_reducible first | (refine gc_drw ?_; intro _) | (refine gc_drw2 ?_; intro _)) | (show GO _ _ _ _ _ (⟨some _, none, _⟩ :: _) _; first | refine go_op (hk := ?_) | (refine go_nw (hk := ?_); intro u; try simp only [List.length_cons, List.length_nil, List.nil_append, Nat.zero_add]) | (refine go_np (hk := ?_); intro id)) | (show GQ _ _ _ _ _ _ (⟨some _, none, _⟩ :: _) _; first | refine gq_op (hk := ?_) | (refine gq_nw (hk := ?_); intro u; try simp only [List.length_cons, List.length_nil, List.nil_append, Nat.zero_add])) | (show GD _ _ _ _ _ (⟨some _, none, _⟩ :: _) _; first | refine gd_op (hk := ?_) | (refine gd_nw (hk := ?_); intro u; try simp only [List.length_cons, List.length_nil, List.nil_append, Nat.zero_add])) | (show GR _ _ _ _ _ (⟨some _, none, _⟩ :: _) _; refine gr_op (hk := ?_)) | (show GD2 _ _ _ _ _ _ _ _ _ _ _ _; first | refine gd2_nil rfl ?_ | refine gd2_op (hk := ?_) | (refine gd2_nw (hk := ?_); intro u; try simp only [List.length_cons, List.length_nil, List.nil_append, Nat.zero_add]) | refine gd2_l (hk := ?_) | (refine gd2_bsl rfl rfl ?_; intro u; try simp only [List.length_cons, List.length_nil, List.nil_append, Nat.zero_add]) | (refine gd2_a (hk := ?_); intro u; try simp only [List.length_cons, List.length_nil, List.nil_append, Nat.zero_add])) | (show GO _ _ _ _ _ (⟨none, none, _⟩ :: _) _; refine go_st (hk := ?_)) | (show GD _ _ _ _ _ (⟨none, none, _⟩ :: _) _; refine gd_st (hk := ?_)) | (show GR _ _ _ _ _ (⟨none, none, _⟩ :: _) _; refine gr_st (hk := ?_)) | (show GO _ _ _ _ _ (⟨_, some _, _⟩ :: _) _; first | refine go_in (hk := ?_) | refine go_out (hk := ?_) | refine go_void (hk := ?_)) | (show GQ _ _ _ _ _ _ (⟨_, some _, _⟩ :: _) _; first | refine gq_in (hk := ?_) | refine gq_out (hk := ?_) | refine gq_void (hk := ?_)) | (show GK _ _ _ _ (blockK _ _ _); refine gk_past rfl ?_) | (show GC _ _ _ _ _ (.cond _ _ _) _; first | refine gc_yes (h1 := ?_) | refine gc_no (h1 := ?_))))
  refine gc_cond rfl (fun h => ?_) (fun h => ?_)
  · (repeat (first | with_reducible (first | refine go_nil ?_ | refine gk_seq ?_ | refine gc_seq ?_ | refine gc_reg ?_ | refine gc_skip ?_ | refine gk_block ?_ | refine gc_block ?_ | refine gc_exit ?_ | refine gc_ret ?_ | refine gk_seqret ?_ | refine gk_seqexit ?_ | refine gk_blockret ?_ | refine gk_out ?_ | refine gk_loopret ?_ | refine gk_loopexit ?_ | refine gq_nil ?_ | refine gd_nil ?_ | refine gr_nil ?_ | refine gc_scope ?_ | refine gk_scope ?_ | refine gk_scoper ?_ | refine gk_scopee ?_) | (with_reducible refine gc_drq ?_; intro _) | (with_reducible first | (refine gc_drw ?_; intro _) | (refine gc_drw2 ?_; intro _)) | (show GO _ _ _ _ _ (⟨some _, none, _⟩ :: _) _; first | refine go_op (hk := ?_) | (refine go_nw (hk := ?_); intro u; try simp only [List.length_cons, List.length_nil, List.nil_append, Nat.zero_add]) | (refine go_np (hk := ?_); intro id)) | (show GQ _ _ _ _ _ _ (⟨some _, none, _⟩ :: _) _; first | refine gq_op (hk := ?_) | (refine gq_nw (hk := ?_); intro u; try simp only [List.length_cons, List.length_nil, List.nil_append, Nat.zero_add])) | (show GD _ _ _ _ _ (⟨some _, none, _⟩ :: _) _; first | refine gd_op (hk := ?_) | (refine gd_nw (hk := ?_); intro u; try simp only [List.length_cons, List.length_nil, List.nil_append, Nat.zero_add])) | (show GR _ _ _ _ _ (⟨some _, none, _⟩ :: _) _; refine gr_op (hk := ?_)) | (show GD2 _ _ _ _ _ _ _ _ _ _ _ _; first | refine gd2_nil rfl ?_ | refine gd2_op (hk := ?_) | (refine gd2_nw (hk := ?_); intro u; try simp only [List.length_cons, List.length_nil, List.nil_append, Nat.zero_add]) | refine gd2_l (hk := ?_) | (refine gd2_bsl rfl rfl ?_; intro u; try simp only [List.length_cons, List.length_nil, List.nil_append, Nat.zero_add]) | (refine gd2_a (hk := ?_); intro u; try simp only [List.length_cons, List.length_nil, List.nil_append, Nat.zero_add])) | (show GO _ _ _ _ _ (⟨none, none, _⟩ :: _) _; refine go_st (hk := ?_)) | (show GD _ _ _ _ _ (⟨none, none, _⟩ :: _) _; refine gd_st (hk := ?_)) | (show GR _ _ _ _ _ (⟨none, none, _⟩ :: _) _; refine gr_st (hk := ?_)) | (show GO _ _ _ _ _ (⟨_, some _, _⟩ :: _) _; first | refine go_in (hk := ?_) | refine go_out (hk := ?_) | refine go_void (hk := ?_)) | (show GQ _ _ _ _ _ _ (⟨_, some _, _⟩ :: _) _; first | refine gq_in (hk := ?_) | refine gq_out (hk := ?_) | refine gq_void (hk := ?_)) | (show GK _ _ _ _ (blockK _ _ _); refine gk_past rfl ?_) | (show GC _ _ _ _ _ (.cond _ _ _) _; first | refine gc_yes (h1 := ?_) | refine gc_no (h1 := ?_))))
    exact gk_next (hk' (by omega))
  · (repeat (first | with_reducible (first | refine go_nil ?_ | refine gk_seq ?_ | refine gc_seq ?_ | refine gc_reg ?_ | refine gc_skip ?_ | refine gk_block ?_ | refine gc_block ?_ | refine gc_exit ?_ | refine gc_ret ?_ | refine gk_seqret ?_ | refine gk_seqexit ?_ | refine gk_blockret ?_ | refine gk_out ?_ | refine gk_loopret ?_ | refine gk_loopexit ?_ | refine gq_nil ?_ | refine gd_nil ?_ | refine gr_nil ?_ | refine gc_scope ?_ | refine gk_scope ?_ | refine gk_scoper ?_ | refine gk_scopee ?_) | (with_reducible refine gc_drq ?_; intro _) | (with_reducible first | (refine gc_drw ?_; intro _) | (refine gc_drw2 ?_; intro _)) | (show GO _ _ _ _ _ (⟨some _, none, _⟩ :: _) _; first | refine go_op (hk := ?_) | (refine go_nw (hk := ?_); intro u; try simp only [List.length_cons, List.length_nil, List.nil_append, Nat.zero_add]) | (refine go_np (hk := ?_); intro id)) | (show GQ _ _ _ _ _ _ (⟨some _, none, _⟩ :: _) _; first | refine gq_op (hk := ?_) | (refine gq_nw (hk := ?_); intro u; try simp only [List.length_cons, List.length_nil, List.nil_append, Nat.zero_add])) | (show GD _ _ _ _ _ (⟨some _, none, _⟩ :: _) _; first | refine gd_op (hk := ?_) | (refine gd_nw (hk := ?_); intro u; try simp only [List.length_cons, List.length_nil, List.nil_append, Nat.zero_add])) | (show GR _ _ _ _ _ (⟨some _, none, _⟩ :: _) _; refine gr_op (hk := ?_)) | (show GD2 _ _ _ _ _ _ _ _ _ _ _ _; first | refine gd2_nil rfl ?_ | refine gd2_op (hk := ?_) | (refine gd2_nw (hk := ?_); intro u; try simp only [List.length_cons, List.length_nil, List.nil_append, Nat.zero_add]) | refine gd2_l (hk := ?_) | (refine gd2_bsl rfl rfl ?_; intro u; try simp only [List.length_cons, List.length_nil, List.nil_append, Nat.zero_add]) | (refine gd2_a (hk := ?_); intro u; try simp only [List.length_cons, List.length_nil, List.nil_append, Nat.zero_add])) | (show GO _ _ _ _ _ (⟨none, none, _⟩ :: _) _; refine go_st (hk := ?_)) | (show GD _ _ _ _ _ (⟨none, none, _⟩ :: _) _; refine gd_st (hk := ?_)) | (show GR _ _ _ _ _ (⟨none, none, _⟩ :: _) _; refine gr_st (hk := ?_)) | (show GO _ _ _ _ _ (⟨_, some _, _⟩ :: _) _; first | refine go_in (hk := ?_) | refine go_out (hk := ?_) | refine go_void (hk := ?_)) | (show GQ _ _ _ _ _ _ (⟨_, some _, _⟩ :: _) _; first | refine gq_in (hk := ?_) | refine gq_out (hk := ?_) | refine gq_void (hk := ?_)) | (show GK _ _ _ _ (blockK _ _ _); refine gk_past rfl ?_) | (show GC _ _ _ _ _ (.cond _ _ _) _; first | refine gc_yes (h1 := ?_) | refine gc_no (h1 := ?_))))
    have : i = k := by omega
    subst this
    exact gk_ret rfl fun H' hH => ⟨rfl, hH.leE⟩

theorem chs_cb : ∀ n, n < 33 → ∀ k, k < 33 → chs n k = (cb n k : Int) := by decide +kernel

theorem implChoose_cb {H : Heap} {n k : Nat} (hn : n ≤ 32) (hk : k ≤ 32) : ACalls Try.prog fn_impl_choose [.int .i64 (n : Int), .int .i64 (k : Int)] H fun r H' => r = .int .i64 (cb n k : Nat) ∧ H' = H := by
  rw [← chs_cb n (by omega) k (by omega)]; exact implChoose_ok hn hk

def qtChoose (f : FuncId) (args : List AV) : Option AV :=
  if f = fn_impl_choose ∨ f = fn_spec_choose then match args with
    | [.int .i64 (.ofNat n), .int .i64 (.ofNat k)] => if n ≤ 32 ∧ k ≤ 32 then some (.int .i64 (cb n k : Nat)) else none
    | _ => none
  else none

theorem qtChoose_impl {n k : Nat} (hn : n ≤ 32) (hk : k ≤ 32) : qtChoose fn_impl_choose [.int .i64 (n : Int), .int .i64 (k : Int)] = some (.int .i64 (cb n k : Nat)) := by
  show (if n ≤ 32 ∧ k ≤ 32 then some (AV.int .i64 (cb n k : Nat)) else none) = _
  rw [if_pos ⟨hn, hk⟩]

structure F4 where
  a : Int
  b : Int
  c : Int
  d : Int

abbrev F4.v (g : F4) : AV := .agg [.int .i64 g.a, .int .i64 g.b, .int .i64 g.c, .int .i64 g.d]

abbrev F4.ok (g : F4) : Prop := (0 ≤ g.a ∧ g.a ≤ 5) ∧ (-1 ≤ g.b ∧ (g.b ≤ 5 ∨ g.b = 9)) ∧ (0 ≤ g.c ∧ g.c ≤ 5) ∧ (0 ≤ g.d ∧ g.d ≤ 8)

theorem sub_refl : ∀ S : Sig, Sub S S
  | [] => .nil
  | c :: S => .cons .head (sub_refl S)

theorem sumN_add (f : Nat → Nat) (a : Nat) : ∀ b, sumN f (a + b) = sumN f a + sumN (fun i => f (a + i)) b
  | 0 => rfl
  | b + 1 => by rw [← Nat.add_assoc, sumN, sumN, sumN_add f a b]; omega

theorem sumN_zero {f : Nat → Nat} : ∀ {n : Nat}, (∀ i, i < n → f i = 0) → sumN f n = 0
  | 0, _ => rfl
  | n + 1, h => by rw [sumN, sumN_zero fun i hi => h i (by omega), h n (by omega)]

theorem slice_cells {H : Heap} {a : AV} {xs : List Int} (h : Ints H a xs) : a.cells = [a] ∧ a.one = true := by
  have := h.sl
  cases a <;> simp [AV.isSlice] at this <;> exact ⟨rfl, rfl⟩

theorem mone_any {P : Program} {m : MI} {s : St} {M : St → (St → Prop) → Prop} {K : St → Prop} (K' : St → Prop) : mone P m s M K = mone P m s (fun t _ => M t K) K' := by
  have he : mexec P m.op m.dst s M K = mexec P m.op m.dst s (fun t _ => M t K) K' := by
    unfold mexec mcall
    split <;> first | rfl | (split <;> rfl)
  unfold mone
  split
  · exact he
  · split
    · split
      · exact he
      · rfl
    · rfl
    · rfl

theorem mops_up {P : Program} {K K' : St → Prop} (h : ∀ s, K s → K' s) : ∀ (l : List MI) (s : St), mops P l s K → mops P l s K'
  | [], s, g => h s g
  | m :: r, s, g => by
    rw [mops_cons] at g ⊢
    rw [mone_any K'] at g
    rw [mone_any K']
    exact mops_mono (fun t k => mops_up h r t k) g

def cutK {γ : Type} (A : Heap) (X : List Nat) (F : γ → List (Nat × AV)) (T : γ → Sig) : Exit → St → Prop
  | .normal, s => ∃ g, Fit A X (F g) (T g) s
  | _, _ => False

theorem gk_cut {A : Heap} {X : List Nat} {E : List (Nat × AV)} {S : Sig} {γ : Type} {F : γ → List (Nat × AV)} {T : γ → Sig} (g : γ) (hc : Cov E (F g)) (hs : Sub S (T g)) : GK A X E S (cutK A X F T .normal) := ⟨fun s hf => ⟨g, hf.cov hc hs⟩⟩

theorem Samples.swap {xs ys : List Int} (h : Samples xs ys) : Samples ys xs := ⟨⟨h.1.2, h.1.1⟩, by have := h.2; omega, by have := h.2; omega, by have := h.2; omega⟩

/-- a row of a table, cell by cell: 'k' goes on with what the columns have left -/
def fillR (wt : Nat → Nat → Nat) (k : List Nat → Nat) : List Nat → Nat → List Nat → Nat
  | [], s, dn => if s = 0 then k dn else 0
  | c :: l, s, dn => sumN (fun x => wt s x * fillR wt k l (s - x) (dn ++ [c - x])) (min s c + 1)

/-- all tables with sums of rows and columns -/
def tabT (wt : Nat → Nat → Nat) : List Nat → List Nat → Nat
  | [], cols => if cols.all (· == 0) = true then 1 else 0
  | r :: rs, cols => fillR wt (tabT wt rs) cols r []

theorem sumN_mul {f : Nat → Nat} (a : Nat) : ∀ n, sumN (fun i => a * f i) n = a * sumN f n
  | 0 => rfl
  | n + 1 => by rw [sumN, sumN, sumN_mul a n, Nat.mul_add]

theorem fillR_congr {wt : Nat → Nat → Nat} {k k' : List Nat → Nat} (h : ∀ l, k l = k' l) : ∀ l s dn, fillR wt k l s dn = fillR wt k' l s dn
  | [], s, dn => by simp only [fillR, h]
  | c :: l, s, dn => by
    simp only [fillR]
    exact sumN_congr fun x _ => by rw [fillR_congr h l]

/-- what is done stands ahead -/
theorem fillR_done {wt : Nat → Nat → Nat} {k : List Nat → Nat} : ∀ l s dn, fillR wt k l s dn = fillR wt (fun m => k (dn ++ m)) l s []
  | [], s, dn => by simp only [fillR, List.append_nil]
  | c :: l, s, dn => by
    simp only [fillR]
    refine sumN_congr fun x _ => ?_
    rw [fillR_done l _ (dn ++ [c - x]), fillR_done l _ ([] ++ [c - x])]
    simp only [List.nil_append, List.append_assoc]

/-- a column of nothing -/
theorem fillR_pad {wt : Nat → Nat → Nat} (w0 : ∀ s, wt s 0 = 1) {k : List Nat → Nat} : ∀ l s dn, fillR wt k (l ++ [0]) s dn = fillR wt (fun m => k (m ++ [0])) l s dn
  | [], s, dn => by
    simp only [List.nil_append, fillR, Nat.min_zero, Nat.zero_add, sumN, w0, Nat.one_mul, Nat.sub_zero, Nat.sub_self]
  | c :: l, s, dn => by
    simp only [List.cons_append, fillR]
    exact sumN_congr fun x _ => by rw [fillR_pad w0 l]

theorem tabT_pad {wt : Nat → Nat → Nat} (w0 : ∀ s, wt s 0 = 1) : ∀ rows cols, tabT wt rows (cols ++ [0]) = tabT wt rows cols
  | [], cols => by simp only [tabT, List.all_append]; simp
  | r :: rs, cols => by
    simp only [tabT]
    rw [fillR_pad w0]
    exact fillR_congr (fun l => tabT_pad w0 rs l) _ _ _

theorem fillR_none {wt : Nat → Nat → Nat} (w0 : ∀ s, wt s 0 = 1) {k : List Nat → Nat} : ∀ l dn, fillR wt k l 0 dn = k (dn ++ l)
  | [], dn => by simp [fillR]
  | c :: l, dn => by
    simp only [fillR, Nat.zero_min, Nat.zero_add, sumN, w0, Nat.one_mul, Nat.sub_zero]
    rw [fillR_none w0 l]; simp

theorem tabT_row {wt : Nat → Nat → Nat} (w0 : ∀ s, wt s 0 = 1) : ∀ rows cols, tabT wt (rows ++ [0]) cols = tabT wt rows cols
  | [], cols => by
    simp only [List.nil_append, tabT]
    rw [fillR_none w0]; rfl
  | r :: rs, cols => by
    simp only [List.cons_append, tabT]
    exact fillR_congr (fun l => tabT_row w0 rs l) _ _ _

/-- bounds -/
theorem sumN_scale {f g : Nat → Nat} {B : Nat} (n : Nat) (h : ∀ x, x < n → f x ≤ g x * B) : sumN f n ≤ sumN g n * B := by
  induction n with
  | zero => simp [sumN]
  | succ n ih =>
    have h1 := ih fun x hx => h x (by omega)
    have h2 := h n (by omega)
    rw [sumN, sumN, Nat.add_mul]; omega

theorem fillR_le {wt : Nat → Nat → Nat} {k : List Nat → Nat} {M : Nat} (hw : ∀ s, s ≤ 6 → ∀ n, n ≤ 7 → sumN (wt s) n ≤ 64) (hk : ∀ l, k l ≤ M) : ∀ l s dn, s ≤ 6 → fillR wt k l s dn ≤ 64 ^ l.length * M
  | [], s, dn, _ => by simp only [fillR, List.length_nil, Nat.pow_zero, Nat.one_mul]; split; exact hk _; omega
  | c :: l, s, dn, hs => by
    simp only [fillR]
    refine Nat.le_trans (sumN_scale (g := wt s) (B := 64 ^ l.length * M) _ fun x hx => Nat.mul_le_mul_left _ (fillR_le hw hk l (s - x) _ (by omega))) ?_
    have := hw s hs (min s c + 1) (by omega)
    rw [List.length_cons, Nat.pow_succ, Nat.mul_comm (64 ^ l.length) 64, Nat.mul_assoc]
    exact Nat.mul_le_mul_right _ this

theorem tabT_le {wt : Nat → Nat → Nat} (hw : ∀ s, s ≤ 6 → ∀ n, n ≤ 7 → sumN (wt s) n ≤ 64) : ∀ rows cols, (∀ r ∈ rows, r ≤ 6) → cols.length ≤ 3 → tabT wt rows cols ≤ 262144 ^ rows.length
  | [], cols, _, _ => by simp only [tabT, List.length_nil, Nat.pow_zero]; split <;> omega
  | r :: rs, cols, hr, hc => by
    simp only [tabT]
    have hk : ∀ l : List Nat, l.length ≤ 3 → tabT wt rs l ≤ 262144 ^ rs.length := fun l hl => tabT_le hw rs l (fun x hx => hr x (by simp [hx])) hl
    rw [fillR_len wt (tabT wt rs) (262144 ^ rs.length) cols r [] (fun l hl => hk l (by simpa [hl] using hc))]
    refine Nat.le_trans (fillR_le hw (M := 262144 ^ rs.length) (fun l => Nat.min_le_right _ _) cols r [] (hr r (by simp))) ?_
    rw [List.length_cons, Nat.pow_succ, Nat.mul_comm (262144 ^ rs.length)]
    refine Nat.mul_le_mul_right _ ?_
    calc 64 ^ cols.length ≤ 64 ^ 3 := Nat.pow_le_pow_right (by omega) hc
      _ = 262144 := by decide
where
  fillR_len (wt : Nat → Nat → Nat) (k : List Nat → Nat) (M : Nat) : ∀ l s dn, (∀ m, m.length = dn.length + l.length → k m ≤ M) → fillR wt k l s dn = fillR wt (fun m => min (k m) M) l s dn
    | [], s, dn, h => by
      simp only [fillR]
      have := h dn (by simp)
      rw [Nat.min_eq_left this]
    | c :: l, s, dn, h => by
      simp only [fillR]
      exact sumN_congr fun x _ => by rw [fillR_len wt k M l _ _ (fun m hm => h m (by simp at hm ⊢; omega))]

def wOne (_ _ : Nat) : Nat := 1

theorem wOne_0 (s : Nat) : wOne s 0 = 1 := rfl

theorem wOne_sum : ∀ s, s ≤ 6 → ∀ n, n ≤ 7 → sumN (wOne s) n ≤ 64 := fun s hs n hn => by
  have := sumN_le (f := wOne s) (B := 1) (n := n) (fun _ _ => Nat.le_refl _)
  omega

theorem cb_0' : ∀ s, s < 33 → cb s 0 = 1 := by decide +kernel

/-- the ways of a row, 1 where there are none to be told -/
def wCb (s x : Nat) : Nat := if s ≤ 6 then cb s x else 1

theorem wCb_0 (s : Nat) : wCb s 0 = 1 := by
  unfold wCb; split
  · exact cb_0' s (by omega)
  · rfl

theorem wCb_sum0 : ∀ s, s < 7 → ∀ n, n < 8 → sumN (cb s) n ≤ 64 := by decide +kernel

theorem wCb_sum : ∀ s, s ≤ 6 → ∀ n, n ≤ 7 → sumN (wCb s) n ≤ 64 := fun s hs n hn => by
  have e : sumN (wCb s) n = sumN (cb s) n := sumN_congr fun x _ => if_pos hs
  rw [e]; exact wCb_sum0 s (by omega) n (by omega)

/-- what is left to be put into cells, three rows and three columns, from a cell on -/
def valC (wt : Nat → Nat → Nat) (cell : Nat) (rs cs : List Nat) : Nat :=
  if cell = 9 then tabT wt [] cs else fillR wt (tabT wt (rs.drop (cell / 3 + 1))) (cs.drop (cell % 3)) (rs.getD (cell / 3) 0) (cs.take (cell % 3))

def leastC (cell : Nat) (rs : List Nat) : Nat := if cell % 3 = 2 then rs.getD (cell / 3) 0 else 0

def nextC (wt : Nat → Nat → Nat) (cell : Nat) (rs cs : List Nat) (x : Nat) : Nat :=
  valC wt (cell + 1) (rs.set (cell / 3) (rs.getD (cell / 3) 0 - x)) (cs.set (cell % 3) (cs.getD (cell % 3) 0 - x))

/-- rows that are done have nothing left -/
def OkC (cell : Nat) (rs cs : List Nat) : Prop := cell ≤ 9 ∧ rs.length = 3 ∧ cs.length = 3 ∧ (∀ x ∈ rs, x ≤ 6) ∧ (∀ x ∈ cs, x ≤ 6) ∧ ∀ i, i < cell / 3 → rs.getD i 0 = 0

theorem sumN_one {f : Nat → Nat} (j : Nat) : ∀ n, (∀ x, x < n → x ≠ j → f x = 0) → sumN f n = if j < n then f j else 0
  | 0, _ => rfl
  | n + 1, h => by
    rw [sumN, sumN_one j n (fun x hx hj => h x (by omega) hj)]
    by_cases e : n = j
    · subst e; simp
    · rw [h n (by omega) e, Nat.add_zero]
      by_cases h2 : j < n
      · rw [if_pos h2, if_pos (by omega)]
      · rw [if_neg h2, if_neg (by omega)]

theorem fillR_last {wt : Nat → Nat → Nat} {k : List Nat → Nat} (c s : Nat) (dn : List Nat) : fillR wt k [c] s dn = sumN (fun j => wt s (s + j) * k (dn ++ [c - (s + j)])) (min s c + 1 - s) := by
  simp only [fillR]
  rw [sumN_one s _ (fun x hx hj => by rw [if_neg (by omega), Nat.mul_zero])]
  by_cases h : s ≤ c
  · rw [if_pos (by omega), show min s c + 1 - s = 1 by omega]
    simp [sumN]
  · rw [if_neg (by omega), show min s c + 1 - s = 0 by omega]; rfl

theorem valC_step {wt : Nat → Nat → Nat} {cell : Nat} {rs cs : List Nat} (h : OkC cell rs cs) (h9 : cell < 9) :
    valC wt cell rs cs = sumN (fun j => wt (rs.getD (cell / 3) 0) (leastC cell rs + j) * nextC wt cell rs cs (leastC cell rs + j)) (min (rs.getD (cell / 3) 0) (cs.getD (cell % 3) 0) + 1 - leastC cell rs) := by
  obtain ⟨_, h1, h2, _, _, _⟩ := h
  obtain ⟨r0, r1, r2, rfl⟩ : ∃ a b c, rs = [a, b, c] := by
    match rs, h1 with
    | [a, b, c], _ => exact ⟨a, b, c, rfl⟩
  obtain ⟨c0, c1, c2, rfl⟩ : ∃ a b c, cs = [a, b, c] := by
    match cs, h2 with
    | [a, b, c], _ => exact ⟨a, b, c, rfl⟩
  have key : ∀ row, row < 3 → cell / 3 = row → ∀ col, col < 3 → cell % 3 = col → valC wt cell [r0, r1, r2] [c0, c1, c2] = sumN (fun j => wt (List.getD [r0, r1, r2] row 0) (leastC cell [r0, r1, r2] + j) * nextC wt cell [r0, r1, r2] [c0, c1, c2] (leastC cell [r0, r1, r2] + j)) (min (List.getD [r0, r1, r2] row 0) (List.getD [c0, c1, c2] col 0) + 1 - leastC cell [r0, r1, r2]) := by
    intro row hrow e1 col hcol e2
    have e3 : cell = 3 * row + col := by omega
    have e4 : ¬ cell = 9 := by omega
    rcases (show col = 0 ∨ col = 1 ∨ col = 2 by omega) with rfl | rfl | rfl
    · have e5 : (cell + 1) / 3 = row := by omega
      have e6 : (cell + 1) % 3 = 1 := by omega
      have e7 : leastC cell [r0, r1, r2] = 0 := by unfold leastC; rw [if_neg (by omega)]
      have e8 : ¬ cell + 1 = 9 := by omega
      rw [e7]
      rcases (show row = 0 ∨ row = 1 ∨ row = 2 by omega) with rfl | rfl | rfl <;> simp [valC, nextC, e4, e8, e1, e2, e5, e6, fillR]
    · have e5 : (cell + 1) / 3 = row := by omega
      have e6 : (cell + 1) % 3 = 2 := by omega
      have e7 : leastC cell [r0, r1, r2] = 0 := by unfold leastC; rw [if_neg (by omega)]
      have e8 : ¬ cell + 1 = 9 := by omega
      rw [e7]
      rcases (show row = 0 ∨ row = 1 ∨ row = 2 by omega) with rfl | rfl | rfl <;> simp [valC, nextC, e4, e8, e1, e2, e5, e6, fillR]
    · have e5 : (cell + 1) / 3 = row + 1 := by omega
      have e6 : (cell + 1) % 3 = 0 := by omega
      have e7 : leastC cell [r0, r1, r2] = List.getD [r0, r1, r2] row 0 := by unfold leastC; rw [if_pos (by omega), e1]
      rw [e7]
      have e9 : valC wt cell [r0, r1, r2] [c0, c1, c2] = fillR wt (tabT wt ([r0, r1, r2].drop (row + 1))) [c2] (List.getD [r0, r1, r2] row 0) [c0, c1] := by
        unfold valC; rw [if_neg e4, e1, e2]; rfl
      rw [e9, fillR_last]
      have e10 : min (List.getD [r0, r1, r2] row 0) (List.getD [c0, c1, c2] 2 0) = min (List.getD [r0, r1, r2] row 0) c2 := rfl
      rw [e10]
      refine sumN_congr fun j _ => ?_
      congr 1
      unfold nextC
      rw [e1, e2]
      rcases (show row = 0 ∨ row = 1 ∨ row = 2 by omega) with rfl | rfl | rfl
      · have e8 : ¬ cell + 1 = 9 := by omega
        simp [valC, e8, e5, e6, tabT]
      · have e8 : ¬ cell + 1 = 9 := by omega
        simp [valC, e8, e5, e6, tabT]
      · have e8 : cell + 1 = 9 := by omega
        simp [valC, e8, tabT]
  exact key _ (by omega) rfl _ (by omega) rfl

theorem valC_none {wt : Nat → Nat → Nat} (w0 : ∀ s, wt s 0 = 1) {cell : Nat} {rs cs : List Nat} (h : OkC cell rs cs) (h1 : ∀ x ∈ rs, x = 0) (h2 : ∀ x ∈ cs, x = 0) : valC wt cell rs cs = 1 := by
  have hg : ∀ i, rs.getD i 0 = 0 := by
    intro i
    rw [List.getD_eq_getElem?_getD]
    cases hi : rs[i]? with
    | none => rfl
    | some x => exact h1 x (List.mem_of_getElem? hi)
  have ht : ∀ l : List Nat, (∀ x ∈ l, x = 0) → ∀ m : List Nat, (∀ x ∈ m, x = 0) → tabT wt l m = 1 := by
    intro l hl
    induction l with
    | nil => intro m hm; unfold tabT; rw [if_pos (by simpa using hm)]
    | cons r l ih =>
      intro m hm
      rw [tabT, hl r (by simp), fillR_none w0]
      exact ih (fun x hx => hl x (by simp [hx])) _ (by simpa using hm)
  unfold valC
  split
  · exact ht [] (by simp) cs h2
  · rw [hg, fillR_none w0]
    exact ht _ (fun x hx => h1 x (List.mem_of_mem_drop hx)) _ (by rw [List.take_append_drop]; exact h2)

theorem getD_le {l : List Nat} {B : Nat} (h : ∀ x ∈ l, x ≤ B) (i : Nat) : l.getD i 0 ≤ B := by
  rw [List.getD_eq_getElem?_getD]
  cases hi : l[i]? with
  | none => exact Nat.zero_le _
  | some x => exact h x (List.mem_of_getElem? hi)

theorem OkC.next {cell : Nat} {rs cs : List Nat} (h : OkC cell rs cs) (h9 : cell < 9) {j : Nat} (hj : j < min (rs.getD (cell / 3) 0) (cs.getD (cell % 3) 0) + 1 - leastC cell rs) :
    OkC (cell + 1) (rs.set (cell / 3) (rs.getD (cell / 3) 0 - (leastC cell rs + j))) (cs.set (cell % 3) (cs.getD (cell % 3) 0 - (leastC cell rs + j))) := by
  obtain ⟨_, h1, h2, h3, h4, h5⟩ := h
  refine ⟨by omega, by simpa using h1, by simpa using h2, ?_, ?_, ?_⟩
  · intro x hx
    rcases List.mem_or_eq_of_mem_set hx with hx | rfl
    · exact h3 x hx
    · have := getD_le h3 (cell / 3); omega
  · intro x hx
    rcases List.mem_or_eq_of_mem_set hx with hx | rfl
    · exact h4 x hx
    · have := getD_le h4 (cell % 3); omega
  · intro i hi
    rw [List.getD_eq_getElem?_getD, List.getElem?_set]
    by_cases e : cell / 3 = i
    · rw [if_pos e, if_pos (by omega)]
      have : leastC cell rs = rs.getD (cell / 3) 0 := by unfold leastC; rw [if_pos (by omega)]
      simp only [Option.getD_some]; omega
    · rw [if_neg e, ← List.getD_eq_getElem?_getD]; exact h5 i (by omega)

theorem valC_le {wt : Nat → Nat → Nat} (hw : ∀ s, s ≤ 6 → ∀ n, n ≤ 7 → sumN (wt s) n ≤ 64) : ∀ (k cell : Nat) {rs cs : List Nat}, k + cell = 9 → OkC cell rs cs → valC wt cell rs cs ≤ 64 ^ k
  | 0, cell, rs, cs, e, h => by
    have : cell = 9 := by omega
    subst this
    simp only [valC, if_true, tabT, Nat.pow_zero]; split <;> omega
  | k + 1, cell, rs, cs, e, h => by
    have h9 : cell < 9 := by omega
    rw [valC_step h h9]
    have hs := getD_le h.2.2.2.1 (cell / 3)
    refine Nat.le_trans (sumN_scale (g := fun j => wt (rs.getD (cell / 3) 0) (leastC cell rs + j)) (B := 64 ^ k) _ fun j hj => Nat.mul_le_mul_left _ (valC_le hw k (cell + 1) (by omega) (h.next h9 hj))) ?_
    rw [Nat.pow_succ, Nat.mul_comm]
    refine Nat.mul_le_mul_left _ ?_
    have h1 := sumN_add (wt (rs.getD (cell / 3) 0)) (leastC cell rs) (min (rs.getD (cell / 3) 0) (cs.getD (cell % 3) 0) + 1 - leastC cell rs)
    have hl : leastC cell rs ≤ rs.getD (cell / 3) 0 := by unfold leastC; split <;> omega
    have h2 := hw (rs.getD (cell / 3) 0) hs (leastC cell rs + (min (rs.getD (cell / 3) 0) (cs.getD (cell % 3) 0) + 1 - leastC cell rs)) (by omega)
    omega

def ntA (L : List Nat) : List AV := L.map fun (n : Nat) => AV.int .i64 (n : Int)

theorem ntA_length (L : List Nat) : (ntA L).length = L.length := List.length_map ..

theorem ntA_one (L : List Nat) : (ntA L).all AV.one = true := by
  rw [List.all_eq_true]; intro x hx
  unfold ntA at hx
  rw [List.mem_map] at hx
  obtain ⟨n, _, rfl⟩ := hx
  rfl

theorem ntA_get {L : List Nat} {i : Nat} (h : i < L.length) : (ntA L)[i]? = some (.int .i64 (L.getD i 0 : Nat)) := by
  unfold ntA
  rw [List.getElem?_map, List.getElem?_eq_getElem h, List.getD_eq_getElem?_getD, List.getElem?_eq_getElem h]
  rfl

theorem ntA_set {L : List Nat} {i v : Nat} (h : i < L.length) : (ntA L).take i ++ [.int .i64 (v : Int)] ++ (ntA L).drop (i + 1) = ntA (L.set i v) := by
  unfold ntA
  rw [List.map_set, List.set_eq_take_append_cons_drop, if_pos (by simpa using h)]
  simp

theorem stp_arrn {A : Heap} {X : List Nat} {E : List (Nat × AV)} {S : Sig} {x y : MX} {id off n j o : Nat} {k : IntKind} (hx : evE E x = some (.ptr id off)) (hy : evE E y = some (.int k (j : Int))) (hj : j < n) (ho : o = off + j) : Stp A X E S (.arra x y n 1) (Is (.ptr id o) S) :=
  stp_pure fun τ H m nid hE hS => by
    simp only [mstep, ev_of hE hx, ev_of hE hy]
    rw [if_pos ⟨by omega, by omega⟩, ho]
    simp

theorem stp_ldnt {A : Heap} {X : List Nat} {E : List (Nat × AV)} {S S0 : Sig} {p : MX} {id o es n : Nat} {L : List Nat} (hp : evE E p = some (.ptr id o)) (hs : Sel S ⟨.cell, .ptr id 0, es, n, ntA L⟩ S0) (ho : o < L.length) {v : Nat} (hv : L.getD o 0 = v) : Stp A X E S (.ld p 1 false) (Is (.int .i64 (v : Int)) S) :=
  stp_ldc1 hp hs (by rw [ntA_get ho, hv])

theorem stp_stnt {A : Heap} {X : List Nat} {E : List (Nat × AV)} {S S0 : Sig} {p x : MX} {id o es n v : Nat} {L : List Nat} (hp : evE E p = some (.ptr id o)) (hx : evE E x = some (.int .i64 (v : Int))) (hs : Sel S ⟨.cell, .ptr id 0, es, n, ntA L⟩ S0) (ho : o < L.length) {L' : List Nat} (hL : L.set o v = L') : Stp A X E S (.st p x 1) (Is .any (⟨.cell, .ptr id 0, es, n, ntA L'⟩ :: S0)) := by
  have h := stp_stc (A := A) (X := X) (E := E) (S := S) hp hx hs (j := 1) rfl rfl (by rw [ntA_length]; omega)
  rw [← hL, ← ntA_set ho]
  exact h

theorem app_getl {rs cs : List Nat} {i : Nat} (h : i < rs.length) : (rs ++ cs).getD i 0 = rs.getD i 0 := by
  rw [List.getD_eq_getElem?_getD, List.getD_eq_getElem?_getD, List.getElem?_append_left h]

theorem app_getr {rs cs : List Nat} {i n : Nat} (h : rs.length = n) : (rs ++ cs).getD (n + i) 0 = cs.getD i 0 := by
  rw [List.getD_eq_getElem?_getD, List.getD_eq_getElem?_getD, List.getElem?_append_right (by omega), show n + i - rs.length = i by omega]

theorem app_setl {rs cs : List Nat} {i v : Nat} (h : i < rs.length) : (rs ++ cs).set i v = rs.set i v ++ cs := List.set_append_left _ _ h

theorem app_setr {rs cs : List Nat} {i n v : Nat} (h : rs.length = n) : (rs ++ cs).set (n + i) v = rs ++ cs.set i v := by
  rw [List.set_append_right _ _ (by omega), show n + i - rs.length = i by omega]

theorem packC_true (l : List AV) : packC true l = some (.agg l) := by
  cases l with
  | nil => rfl
  | cons a l => cases l <;> rfl

theorem without_ok {H : Heap} {rs cs : List Nat} {row col t : Nat} (h1 : rs.length = 3) (h2 : cs.length = 3) (hr : row < 3) (hc : col < 3) (ht : t ≤ rs.getD row 0 ∧ t ≤ cs.getD col 0) (hb : rs.getD row 0 ≤ 6 ∧ cs.getD col 0 ≤ 6) :
    ACalls Try.prog fn_impl_sums_without [.agg (ntA (rs ++ cs)), .int .i64 (row : Int), .int .i64 (col : Int), .int .i64 (t : Int)] H fun r H' => r = .agg (ntA (rs.set row (rs.getD row 0 - t) ++ cs.set col (cs.getD col 0 - t))) ∧ Le H H' := by
  have hl : (rs ++ cs).length = 6 := by rw [List.length_append]; omega
  refine code_impl_sums_without.go [] trivial (by simp) ?_
  unfold mc_impl_sums_without
  (repeat (first | with_reducible (first | refine go_nil ?_ | refine gk_seq ?_ | refine gc_seq ?_ | refine gc_reg ?_ | refine gc_skip ?_ | refine gk_block ?_ | refine gc_block ?_ | refine gc_exit ?_ | refine gc_ret ?_ | refine gk_seqret ?_ | refine gk_seqexit ?_ | refine gk_blockret ?_ | refine gk_out ?_ | refine gk_loopret ?_ | refine gk_loopexit ?_ | refine gq_nil ?_ | refine gd_nil ?_ | refine gr_nil ?_ | refine gc_scope ?_ | refine gk_scope ?_ | refine gk_scoper ?_ | refine gk_scopee ?_) | (with_reducible refine gc_drq ?_; intro _) | (with_reducible first | (refine gc_drw ?_; intro _) | (refine gc_drw2 ?_; intro _)) | (show GO _ _ _ _ _ (⟨some _, none, _⟩ :: _) _; first | refine go_op (hk := ?_) | (refine go_nw (hk := ?_); intro u; try simp only [List.length_cons, List.length_nil, List.nil_append, Nat.zero_add]) | (refine go_np (hk := ?_); intro id)) | (show GQ _ _ _ _ _ _ (⟨some _, none, _⟩ :: _) _; first | refine gq_op (hk := ?_) | (refine gq_nw (hk := ?_); intro u; try simp only [List.length_cons, List.length_nil, List.nil_append, Nat.zero_add])) | (show GD _ _ _ _ _ (⟨some _, none, _⟩ :: _) _; first | refine gd_op (hk := ?_) | (refine gd_nw (hk := ?_); intro u; try simp only [List.length_cons, List.length_nil, List.nil_append, Nat.zero_add])) | (show GR _ _ _ _ _ (⟨some _, none, _⟩ :: _) _; refine gr_op (hk := ?_)) | (show GD2 _ _ _ _ _ _ _ _ _ _ _ _; first | refine gd2_nil rfl ?_ | refine gd2_op (hk := ?_) | (refine gd2_nw (hk := ?_); intro u; try simp only [List.length_cons, List.length_nil, List.nil_append, Nat.zero_add]) | refine gd2_l (hk := ?_) | (refine gd2_bsl rfl rfl ?_; intro u; try simp only [List.length_cons, List.length_nil, List.nil_append, Nat.zero_add]) | (refine gd2_a (hk := ?_); intro u; try simp only [List.length_cons, List.length_nil, List.nil_append, Nat.zero_add])) | (show GO _ _ _ _ _ (⟨none, none, _⟩ :: _) _; refine go_st (hk := ?_)) | (show GD _ _ _ _ _ (⟨none, none, _⟩ :: _) _; refine gd_st (hk := ?_)) | (show GR _ _ _ _ _ (⟨none, none, _⟩ :: _) _; refine gr_st (hk := ?_)) | (show GO _ _ _ _ _ (⟨_, some _, _⟩ :: _) _; first | refine go_in (hk := ?_) | refine go_out (hk := ?_) | refine go_void (hk := ?_)) | (show GQ _ _ _ _ _ _ (⟨_, some _, _⟩ :: _) _; first | refine gq_in (hk := ?_) | refine gq_out (hk := ?_) | refine gq_void (hk := ?_)) | (show GK _ _ _ _ (blockK _ _ _); refine gk_past rfl ?_) | (show GC _ _ _ _ _ (.cond _ _ _) _; first | refine gc_yes (h1 := ?_) | refine gc_no (h1 := ?_))))
  refine go_newp rfl (stp_boxag rfl (ntA_one _)) ?_
  intro i4
  (repeat (first | with_reducible (first | refine go_nil ?_ | refine gk_seq ?_ | refine gc_seq ?_ | refine gc_reg ?_ | refine gc_skip ?_ | refine gk_block ?_ | refine gc_block ?_ | refine gc_exit ?_ | refine gc_ret ?_ | refine gk_seqret ?_ | refine gk_seqexit ?_ | refine gk_blockret ?_ | refine gk_out ?_ | refine gk_loopret ?_ | refine gk_loopexit ?_ | refine gq_nil ?_ | refine gd_nil ?_ | refine gr_nil ?_ | refine gc_scope ?_ | refine gk_scope ?_ | refine gk_scoper ?_ | refine gk_scopee ?_) | (with_reducible refine gc_drq ?_; intro _) | (with_reducible first | (refine gc_drw ?_; intro _) | (refine gc_drw2 ?_; intro _)) | (show GO _ _ _ _ _ (⟨some _, none, _⟩ :: _) _; first | refine go_op (hk := ?_) | (refine go_nw (hk := ?_); intro u; try simp only [List.length_cons, List.length_nil, List.nil_append, Nat.zero_add]) | (refine go_np (hk := ?_); intro id)) | (show GQ _ _ _ _ _ _ (⟨some _, none, _⟩ :: _) _; first | refine gq_op (hk := ?_) | (refine gq_nw (hk := ?_); intro u; try simp only [List.length_cons, List.length_nil, List.nil_append, Nat.zero_add])) | (show GD _ _ _ _ _ (⟨some _, none, _⟩ :: _) _; first | refine gd_op (hk := ?_) | (refine gd_nw (hk := ?_); intro u; try simp only [List.length_cons, List.length_nil, List.nil_append, Nat.zero_add])) | (show GR _ _ _ _ _ (⟨some _, none, _⟩ :: _) _; refine gr_op (hk := ?_)) | (show GD2 _ _ _ _ _ _ _ _ _ _ _ _; first | refine gd2_nil rfl ?_ | refine gd2_op (hk := ?_) | (refine gd2_nw (hk := ?_); intro u; try simp only [List.length_cons, List.length_nil, List.nil_append, Nat.zero_add]) | refine gd2_l (hk := ?_) | (refine gd2_bsl rfl rfl ?_; intro u; try simp only [List.length_cons, List.length_nil, List.nil_append, Nat.zero_add]) | (refine gd2_a (hk := ?_); intro u; try simp only [List.length_cons, List.length_nil, List.nil_append, Nat.zero_add])) | (show GO _ _ _ _ _ (⟨none, none, _⟩ :: _) _; refine go_st (hk := ?_)) | (show GD _ _ _ _ _ (⟨none, none, _⟩ :: _) _; refine gd_st (hk := ?_)) | (show GR _ _ _ _ _ (⟨none, none, _⟩ :: _) _; refine gr_st (hk := ?_)) | (show GO _ _ _ _ _ (⟨_, some _, _⟩ :: _) _; first | refine go_in (hk := ?_) | refine go_out (hk := ?_) | refine go_void (hk := ?_)) | (show GQ _ _ _ _ _ _ (⟨_, some _, _⟩ :: _) _; first | refine gq_in (hk := ?_) | refine gq_out (hk := ?_) | refine gq_void (hk := ?_)) | (show GK _ _ _ _ (blockK _ _ _); refine gk_past rfl ?_) | (show GC _ _ _ _ _ (.cond _ _ _) _; first | refine gc_yes (h1 := ?_) | refine gc_no (h1 := ?_))))
  revert id; intro i8
  refine go_is rfl (stp_arrn rfl rfl hr rfl) ?_
  refine go_is rfl (stp_ldnt (L := rs ++ cs) (v := rs.getD row 0) rfl (by exact Sel.auto) (by omega) (by rw [show 0 + 0 + row = row by omega]; exact app_getl (by omega))) ?_
  (repeat (first | with_reducible (first | refine go_nil ?_ | refine gk_seq ?_ | refine gc_seq ?_ | refine gc_reg ?_ | refine gc_skip ?_ | refine gk_block ?_ | refine gc_block ?_ | refine gc_exit ?_ | refine gc_ret ?_ | refine gk_seqret ?_ | refine gk_seqexit ?_ | refine gk_blockret ?_ | refine gk_out ?_ | refine gk_loopret ?_ | refine gk_loopexit ?_ | refine gq_nil ?_ | refine gd_nil ?_ | refine gr_nil ?_ | refine gc_scope ?_ | refine gk_scope ?_ | refine gk_scoper ?_ | refine gk_scopee ?_) | (with_reducible refine gc_drq ?_; intro _) | (with_reducible first | (refine gc_drw ?_; intro _) | (refine gc_drw2 ?_; intro _)) | (show GO _ _ _ _ _ (⟨some _, none, _⟩ :: _) _; first | refine go_op (hk := ?_) | (refine go_nw (hk := ?_); intro u; try simp only [List.length_cons, List.length_nil, List.nil_append, Nat.zero_add]) | (refine go_np (hk := ?_); intro id)) | (show GQ _ _ _ _ _ _ (⟨some _, none, _⟩ :: _) _; first | refine gq_op (hk := ?_) | (refine gq_nw (hk := ?_); intro u; try simp only [List.length_cons, List.length_nil, List.nil_append, Nat.zero_add])) | (show GD _ _ _ _ _ (⟨some _, none, _⟩ :: _) _; first | refine gd_op (hk := ?_) | (refine gd_nw (hk := ?_); intro u; try simp only [List.length_cons, List.length_nil, List.nil_append, Nat.zero_add])) | (show GR _ _ _ _ _ (⟨some _, none, _⟩ :: _) _; refine gr_op (hk := ?_)) | (show GD2 _ _ _ _ _ _ _ _ _ _ _ _; first | refine gd2_nil rfl ?_ | refine gd2_op (hk := ?_) | (refine gd2_nw (hk := ?_); intro u; try simp only [List.length_cons, List.length_nil, List.nil_append, Nat.zero_add]) | refine gd2_l (hk := ?_) | (refine gd2_bsl rfl rfl ?_; intro u; try simp only [List.length_cons, List.length_nil, List.nil_append, Nat.zero_add]) | (refine gd2_a (hk := ?_); intro u; try simp only [List.length_cons, List.length_nil, List.nil_append, Nat.zero_add])) | (show GO _ _ _ _ _ (⟨none, none, _⟩ :: _) _; refine go_st (hk := ?_)) | (show GD _ _ _ _ _ (⟨none, none, _⟩ :: _) _; refine gd_st (hk := ?_)) | (show GR _ _ _ _ _ (⟨none, none, _⟩ :: _) _; refine gr_st (hk := ?_)) | (show GO _ _ _ _ _ (⟨_, some _, _⟩ :: _) _; first | refine go_in (hk := ?_) | refine go_out (hk := ?_) | refine go_void (hk := ?_)) | (show GQ _ _ _ _ _ _ (⟨_, some _, _⟩ :: _) _; first | refine gq_in (hk := ?_) | refine gq_out (hk := ?_) | refine gq_void (hk := ?_)) | (show GK _ _ _ _ (blockK _ _ _); refine gk_past rfl ?_) | (show GC _ _ _ _ _ (.cond _ _ _) _; first | refine gc_yes (h1 := ?_) | refine gc_no (h1 := ?_))))
  refine go_is rfl (stp_arrn rfl rfl hr rfl) ?_
  refine go_is0 rfl (stp_stnt (L := rs ++ cs) (v := rs.getD row 0 - t) (L' := rs.set row (rs.getD row 0 - t) ++ cs) rfl (by first | rfl | (show some _ = some _; congr 2; omega)) (by exact Sel.auto) (by omega) (by rw [show 0 + 0 + row = row by omega]; exact app_setl (by omega))) ?_
  have hl2 : (rs.set row (rs.getD row 0 - t) ++ cs).length = 6 := by rw [List.length_append, List.length_set]; omega
  have h3 : (rs.set row (rs.getD row 0 - t)).length = 3 := by rw [List.length_set]; exact h1
  (repeat (first | with_reducible (first | refine go_nil ?_ | refine gk_seq ?_ | refine gc_seq ?_ | refine gc_reg ?_ | refine gc_skip ?_ | refine gk_block ?_ | refine gc_block ?_ | refine gc_exit ?_ | refine gc_ret ?_ | refine gk_seqret ?_ | refine gk_seqexit ?_ | refine gk_blockret ?_ | refine gk_out ?_ | refine gk_loopret ?_ | refine gk_loopexit ?_ | refine gq_nil ?_ | refine gd_nil ?_ | refine gr_nil ?_ | refine gc_scope ?_ | refine gk_scope ?_ | refine gk_scoper ?_ | refine gk_scopee ?_) | (with_reducible refine gc_drq ?_; intro _) | (with_reducible first | (refine gc_drw ?_; intro _) | (refine gc_drw2 ?_; intro _)) | (show GO _ _ _ _ _ (⟨some _, none, _⟩ :: _) _; first | refine go_op (hk := ?_) | (refine go_nw (hk := ?_); intro u; try simp only [List.length_cons, List.length_nil, List.nil_append, Nat.zero_add]) | (refine go_np (hk := ?_); intro id)) | (show GQ _ _ _ _ _ _ (⟨some _, none, _⟩ :: _) _; first | refine gq_op (hk := ?_) | (refine gq_nw (hk := ?_); intro u; try simp only [List.length_cons, List.length_nil, List.nil_append, Nat.zero_add])) | (show GD _ _ _ _ _ (⟨some _, none, _⟩ :: _) _; first | refine gd_op (hk := ?_) | (refine gd_nw (hk := ?_); intro u; try simp only [List.length_cons, List.length_nil, List.nil_append, Nat.zero_add])) | (show GR _ _ _ _ _ (⟨some _, none, _⟩ :: _) _; refine gr_op (hk := ?_)) | (show GD2 _ _ _ _ _ _ _ _ _ _ _ _; first | refine gd2_nil rfl ?_ | refine gd2_op (hk := ?_) | (refine gd2_nw (hk := ?_); intro u; try simp only [List.length_cons, List.length_nil, List.nil_append, Nat.zero_add]) | refine gd2_l (hk := ?_) | (refine gd2_bsl rfl rfl ?_; intro u; try simp only [List.length_cons, List.length_nil, List.nil_append, Nat.zero_add]) | (refine gd2_a (hk := ?_); intro u; try simp only [List.length_cons, List.length_nil, List.nil_append, Nat.zero_add])) | (show GO _ _ _ _ _ (⟨none, none, _⟩ :: _) _; refine go_st (hk := ?_)) | (show GD _ _ _ _ _ (⟨none, none, _⟩ :: _) _; refine gd_st (hk := ?_)) | (show GR _ _ _ _ _ (⟨none, none, _⟩ :: _) _; refine gr_st (hk := ?_)) | (show GO _ _ _ _ _ (⟨_, some _, _⟩ :: _) _; first | refine go_in (hk := ?_) | refine go_out (hk := ?_) | refine go_void (hk := ?_)) | (show GQ _ _ _ _ _ _ (⟨_, some _, _⟩ :: _) _; first | refine gq_in (hk := ?_) | refine gq_out (hk := ?_) | refine gq_void (hk := ?_)) | (show GK _ _ _ _ (blockK _ _ _); refine gk_past rfl ?_) | (show GC _ _ _ _ _ (.cond _ _ _) _; first | refine gc_yes (h1 := ?_) | refine gc_no (h1 := ?_))))
  refine go_is rfl (stp_arrn rfl rfl hc rfl) ?_
  refine go_is rfl (stp_ldnt (L := rs.set row (rs.getD row 0 - t) ++ cs) (v := cs.getD col 0) rfl (by exact Sel.auto) (by omega) (by rw [show 0 + 3 + col = 3 + col by omega]; exact app_getr h3)) ?_
  (repeat (first | with_reducible (first | refine go_nil ?_ | refine gk_seq ?_ | refine gc_seq ?_ | refine gc_reg ?_ | refine gc_skip ?_ | refine gk_block ?_ | refine gc_block ?_ | refine gc_exit ?_ | refine gc_ret ?_ | refine gk_seqret ?_ | refine gk_seqexit ?_ | refine gk_blockret ?_ | refine gk_out ?_ | refine gk_loopret ?_ | refine gk_loopexit ?_ | refine gq_nil ?_ | refine gd_nil ?_ | refine gr_nil ?_ | refine gc_scope ?_ | refine gk_scope ?_ | refine gk_scoper ?_ | refine gk_scopee ?_) | (with_reducible refine gc_drq ?_; intro _) | (with_reducible first | (refine gc_drw ?_; intro _) | (refine gc_drw2 ?_; intro _)) | (show GO _ _ _ _ _ (⟨some _, none, _⟩ :: _) _; first | refine go_op (hk := ?_) | (refine go_nw (hk := ?_); intro u; try simp only [List.length_cons, List.length_nil, List.nil_append, Nat.zero_add]) | (refine go_np (hk := ?_); intro id)) | (show GQ _ _ _ _ _ _ (⟨some _, none, _⟩ :: _) _; first | refine gq_op (hk := ?_) | (refine gq_nw (hk := ?_); intro u; try simp only [List.length_cons, List.length_nil, List.nil_append, Nat.zero_add])) | (show GD _ _ _ _ _ (⟨some _, none, _⟩ :: _) _; first | refine gd_op (hk := ?_) | (refine gd_nw (hk := ?_); intro u; try simp only [List.length_cons, List.length_nil, List.nil_append, Nat.zero_add])) | (show GR _ _ _ _ _ (⟨some _, none, _⟩ :: _) _; refine gr_op (hk := ?_)) | (show GD2 _ _ _ _ _ _ _ _ _ _ _ _; first | refine gd2_nil rfl ?_ | refine gd2_op (hk := ?_) | (refine gd2_nw (hk := ?_); intro u; try simp only [List.length_cons, List.length_nil, List.nil_append, Nat.zero_add]) | refine gd2_l (hk := ?_) | (refine gd2_bsl rfl rfl ?_; intro u; try simp only [List.length_cons, List.length_nil, List.nil_append, Nat.zero_add]) | (refine gd2_a (hk := ?_); intro u; try simp only [List.length_cons, List.length_nil, List.nil_append, Nat.zero_add])) | (show GO _ _ _ _ _ (⟨none, none, _⟩ :: _) _; refine go_st (hk := ?_)) | (show GD _ _ _ _ _ (⟨none, none, _⟩ :: _) _; refine gd_st (hk := ?_)) | (show GR _ _ _ _ _ (⟨none, none, _⟩ :: _) _; refine gr_st (hk := ?_)) | (show GO _ _ _ _ _ (⟨_, some _, _⟩ :: _) _; first | refine go_in (hk := ?_) | refine go_out (hk := ?_) | refine go_void (hk := ?_)) | (show GQ _ _ _ _ _ _ (⟨_, some _, _⟩ :: _) _; first | refine gq_in (hk := ?_) | refine gq_out (hk := ?_) | refine gq_void (hk := ?_)) | (show GK _ _ _ _ (blockK _ _ _); refine gk_past rfl ?_) | (show GC _ _ _ _ _ (.cond _ _ _) _; first | refine gc_yes (h1 := ?_) | refine gc_no (h1 := ?_))))
  refine go_is rfl (stp_arrn rfl rfl hc rfl) ?_
  refine go_is0 rfl (stp_stnt (L := rs.set row (rs.getD row 0 - t) ++ cs) (v := cs.getD col 0 - t) (L' := rs.set row (rs.getD row 0 - t) ++ cs.set col (cs.getD col 0 - t)) rfl (by first | rfl | (show some _ = some _; congr 2; omega)) (by exact Sel.auto) (by omega) (by rw [show 0 + 3 + col = 3 + col by omega]; exact app_setr h3)) ?_
  have hl3 : (rs.set row (rs.getD row 0 - t) ++ cs.set col (cs.getD col 0 - t)).length = 6 := by rw [List.length_append, List.length_set, List.length_set]; omega
  (repeat (first | with_reducible (first | refine go_nil ?_ | refine gk_seq ?_ | refine gc_seq ?_ | refine gc_reg ?_ | refine gc_skip ?_ | refine gk_block ?_ | refine gc_block ?_ | refine gc_exit ?_ | refine gc_ret ?_ | refine gk_seqret ?_ | refine gk_seqexit ?_ | refine gk_blockret ?_ | refine gk_out ?_ | refine gk_loopret ?_ | refine gk_loopexit ?_ | refine gq_nil ?_ | refine gd_nil ?_ | refine gr_nil ?_ | refine gc_scope ?_ | refine gk_scope ?_ | refine gk_scoper ?_ | refine gk_scopee ?_) | (with_reducible refine gc_drq ?_; intro _) | (with_reducible first | (refine gc_drw ?_; intro _) | (refine gc_drw2 ?_; intro _)) | (show GO _ _ _ _ _ (⟨some _, none, _⟩ :: _) _; first | refine go_op (hk := ?_) | (refine go_nw (hk := ?_); intro u; try simp only [List.length_cons, List.length_nil, List.nil_append, Nat.zero_add]) | (refine go_np (hk := ?_); intro id)) | (show GQ _ _ _ _ _ _ (⟨some _, none, _⟩ :: _) _; first | refine gq_op (hk := ?_) | (refine gq_nw (hk := ?_); intro u; try simp only [List.length_cons, List.length_nil, List.nil_append, Nat.zero_add])) | (show GD _ _ _ _ _ (⟨some _, none, _⟩ :: _) _; first | refine gd_op (hk := ?_) | (refine gd_nw (hk := ?_); intro u; try simp only [List.length_cons, List.length_nil, List.nil_append, Nat.zero_add])) | (show GR _ _ _ _ _ (⟨some _, none, _⟩ :: _) _; refine gr_op (hk := ?_)) | (show GD2 _ _ _ _ _ _ _ _ _ _ _ _; first | refine gd2_nil rfl ?_ | refine gd2_op (hk := ?_) | (refine gd2_nw (hk := ?_); intro u; try simp only [List.length_cons, List.length_nil, List.nil_append, Nat.zero_add]) | refine gd2_l (hk := ?_) | (refine gd2_bsl rfl rfl ?_; intro u; try simp only [List.length_cons, List.length_nil, List.nil_append, Nat.zero_add]) | (refine gd2_a (hk := ?_); intro u; try simp only [List.length_cons, List.length_nil, List.nil_append, Nat.zero_add])) | (show GO _ _ _ _ _ (⟨none, none, _⟩ :: _) _; refine go_st (hk := ?_)) | (show GD _ _ _ _ _ (⟨none, none, _⟩ :: _) _; refine gd_st (hk := ?_)) | (show GR _ _ _ _ _ (⟨none, none, _⟩ :: _) _; refine gr_st (hk := ?_)) | (show GO _ _ _ _ _ (⟨_, some _, _⟩ :: _) _; first | refine go_in (hk := ?_) | refine go_out (hk := ?_) | refine go_void (hk := ?_)) | (show GQ _ _ _ _ _ _ (⟨_, some _, _⟩ :: _) _; first | refine gq_in (hk := ?_) | refine gq_out (hk := ?_) | refine gq_void (hk := ?_)) | (show GK _ _ _ _ (blockK _ _ _); refine gk_past rfl ?_) | (show GC _ _ _ _ _ (.cond _ _ _) _; first | refine gc_yes (h1 := ?_) | refine gc_no (h1 := ?_))))
  refine go_is rfl (stp_ldag rfl (by exact Sel.auto) (by rw [ntA_length, hl3]; rfl)) ?_
  refine go_is0 rfl (stp_stag rfl rfl (by exact Sel.auto) (by rw [ntA_length, hl3]; rfl) rfl (ntA_one _)) ?_
  (repeat (first | with_reducible (first | refine go_nil ?_ | refine gk_seq ?_ | refine gc_seq ?_ | refine gc_reg ?_ | refine gc_skip ?_ | refine gk_block ?_ | refine gc_block ?_ | refine gc_exit ?_ | refine gc_ret ?_ | refine gk_seqret ?_ | refine gk_seqexit ?_ | refine gk_blockret ?_ | refine gk_out ?_ | refine gk_loopret ?_ | refine gk_loopexit ?_ | refine gq_nil ?_ | refine gd_nil ?_ | refine gr_nil ?_ | refine gc_scope ?_ | refine gk_scope ?_ | refine gk_scoper ?_ | refine gk_scopee ?_) | (with_reducible refine gc_drq ?_; intro _) | (with_reducible first | (refine gc_drw ?_; intro _) | (refine gc_drw2 ?_; intro _)) | (show GO _ _ _ _ _ (⟨some _, none, _⟩ :: _) _; first | refine go_op (hk := ?_) | (refine go_nw (hk := ?_); intro u; try simp only [List.length_cons, List.length_nil, List.nil_append, Nat.zero_add]) | (refine go_np (hk := ?_); intro id)) | (show GQ _ _ _ _ _ _ (⟨some _, none, _⟩ :: _) _; first | refine gq_op (hk := ?_) | (refine gq_nw (hk := ?_); intro u; try simp only [List.length_cons, List.length_nil, List.nil_append, Nat.zero_add])) | (show GD _ _ _ _ _ (⟨some _, none, _⟩ :: _) _; first | refine gd_op (hk := ?_) | (refine gd_nw (hk := ?_); intro u; try simp only [List.length_cons, List.length_nil, List.nil_append, Nat.zero_add])) | (show GR _ _ _ _ _ (⟨some _, none, _⟩ :: _) _; refine gr_op (hk := ?_)) | (show GD2 _ _ _ _ _ _ _ _ _ _ _ _; first | refine gd2_nil rfl ?_ | refine gd2_op (hk := ?_) | (refine gd2_nw (hk := ?_); intro u; try simp only [List.length_cons, List.length_nil, List.nil_append, Nat.zero_add]) | refine gd2_l (hk := ?_) | (refine gd2_bsl rfl rfl ?_; intro u; try simp only [List.length_cons, List.length_nil, List.nil_append, Nat.zero_add]) | (refine gd2_a (hk := ?_); intro u; try simp only [List.length_cons, List.length_nil, List.nil_append, Nat.zero_add])) | (show GO _ _ _ _ _ (⟨none, none, _⟩ :: _) _; refine go_st (hk := ?_)) | (show GD _ _ _ _ _ (⟨none, none, _⟩ :: _) _; refine gd_st (hk := ?_)) | (show GR _ _ _ _ _ (⟨none, none, _⟩ :: _) _; refine gr_st (hk := ?_)) | (show GO _ _ _ _ _ (⟨_, some _, _⟩ :: _) _; first | refine go_in (hk := ?_) | refine go_out (hk := ?_) | refine go_void (hk := ?_)) | (show GQ _ _ _ _ _ _ (⟨_, some _, _⟩ :: _) _; first | refine gq_in (hk := ?_) | refine gq_out (hk := ?_) | refine gq_void (hk := ?_)) | (show GK _ _ _ _ (blockK _ _ _); refine gk_past rfl ?_) | (show GC _ _ _ _ _ (.cond _ _ _) _; first | refine gc_yes (h1 := ?_) | refine gc_no (h1 := ?_))))
  exact gk_retc rfl (by exact Sel.auto) (by rw [ntA_length, hl3]; rfl) (by rw [List.take_of_length_le (by rw [ntA_length]; omega)]; exact packC_true _) fun H' hH => ⟨rfl, hH.leE⟩

theorem gc_if_cut {P : Program} {A : Heap} {X : List Nat} {E : List (Nat × AV)} {S : Sig} {Q : Exit → St → Prop} {γ : Type} {c : MX} {l : List MI} {p : Prop} [Decidable p] (F : γ → List (Nat × AV)) (T : γ → Sig) (hv : evE E c = some (.bool (decide p)))
    (h1 : p → GO P A X E S l (cutK A X F T .normal)) (h2 : ¬ p → GK A X E S (cutK A X F T .normal)) (hk : ∀ g, GK A X (F g) (T g) (Q .normal)) : GC P A X E S (.cond c (.reg l) .skip) Q := by
  refine gc_cond hv (fun hp => gc_reg ⟨fun s hf => ?_⟩) (fun hp => gc_skip ⟨fun s hf => ?_⟩)
  · exact mops_up (fun s' h' => by obtain ⟨g, hg⟩ := h'; exact (hk g).g s' hg) l s ((h1 hp).g s hf)
  · obtain ⟨g, hg⟩ := (h2 hp).g s hf
    exact (hk g).g s hg

theorem sumN_up {f : Nat → Nat} {i n : Nat} (h : i ≤ n) : sumN f i ≤ sumN f n := by
  obtain ⟨k, rfl⟩ : ∃ k, n = i + k := ⟨n - i, by omega⟩
  rw [sumN_add]; omega

theorem flatEq_zero : ∀ L : List Nat, flatEq (ntA L) (ntA (List.replicate L.length 0)) = some (L.all (· == 0))
  | [] => rfl
  | n :: L => by
    have ih := flatEq_zero L
    simp only [List.length_cons, List.replicate_succ, ntA, List.map_cons] at ih ⊢
    simp only [flatEq, if_true, ih, Option.map_some, List.all_cons]
    congr 2
    cases n with
    | zero => rfl
    | succ n => simp; omega

abbrev pairV (a b : Nat) : AV := .tuple [.int .i64 (a : Int), .int .i64 (b : Int)]

end Go.Rx.Try
