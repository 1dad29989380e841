import Derived.Test.YtmjhopdonddpcaaD8
namespace Go.Rx.Try
open Go.Proofs
set_option maxRecDepth 100000
set_option maxHeartbeats 8000000
set_option linter.unusedSimpArgs false
set_option linter.unusedVariables false

theorem negated_ok {H : Heap} {a : AV} {xs : List Int} (ha : Ints H a xs) (hl : xs.length ≤ 1000000) (hb : Bd 1000000000 xs) :
    ACalls Try.prog fn_laws_negated [a] H fun r H' => OwnI H H' r (xs.map (- ·)) ∧ Le H H' := by
  refine code_laws_negated.go [.roI a xs.length xs] ⟨⟨rfl, ha⟩, trivial⟩ (by simp) ?_
  unfold mc_laws_negated
  (repeat (first | with_reducible (first | refine go_nil ?_ | refine gk_seq ?_ | refine gc_seq ?_ | refine gc_reg ?_ | refine gc_skip ?_ | refine gk_block ?_ | refine gc_block ?_ | refine gc_exit ?_ | refine gc_ret ?_ | refine gk_seqret ?_ | refine gk_seqexit ?_ | refine gk_blockret ?_ | refine gk_out ?_ | refine gk_loopret ?_ | refine gk_loopexit ?_ | refine gq_nil ?_ | refine gd_nil ?_) | (with_reducible refine gc_drq ?_; intro _) | (with_reducible refine gc_drw ?_; intro _) | ((first | apply go_is | apply gq_is | apply gd_is); (next => exact rfl); (next => first | (show Stp _ _ _ _ (.mv _) _; exact stp_mv) | (show Stp _ _ _ _ (.ixa _ _ _) _; (first | exact stp_ixa | exact stp_ixa0 | exact stp_ixaz)) | (show Stp _ _ _ _ (.ld _ _ _) _; (first | exact stp_ld | exact stp_ldc1 | exact stp_ldb | exact stp_ldc)) | (show Stp _ _ _ _ (.len _) _; exact stp_len) | (show Stp _ _ _ _ (.bin .add _ _) _; (first | exact stp_addn | exact stp_addnn | exact stp_add | exact stp_addu1 | exact stp_addw)) | (show Stp _ _ _ _ (.bin .sub _ _) _; (first | exact stp_subn | exact stp_sub | exact stp_subu1 | exact stp_subw)) | (show Stp _ _ _ _ (.bin .mul _ _) _; (first | exact stp_mul | exact stp_mulw)) | (show Stp _ _ _ _ (.bin .lss _ _) _; exact stp_lt) | (show Stp _ _ _ _ (.bin .gtr _ _) _; exact stp_gt) | (show Stp _ _ _ _ (.bin .eql _ _) _; exact stp_eq) | (show Stp _ _ _ _ (.bin .neq _ _) _; exact stp_ne) | (show Stp _ _ _ _ (.bin .leq _ _) _; exact stp_le) | (show Stp _ _ _ _ (.bin .geq _ _) _; exact stp_ge) | (show Stp _ _ _ _ (.bin .quo _ _) _; exact stp_quon) | (show Stp _ _ _ _ (.bin .rem _ _) _; exact stp_remn) | (show Stp _ _ _ _ (.un .not _) _; (first | exact stp_notd | exact stp_not)) | (show Stp _ _ _ _ (.un .neg _) _; exact stp_neg) | (show Stp _ _ _ _ (.ext _ _) _; exact stp_ext) | (show Stp _ _ _ _ (.pick _ _ _) _; (first | exact stp_pickt | exact stp_pickf | exact stp_pick)) | (show Stp _ _ _ _ (.beq _ _ _) _; (first | exact stp_beqd | exact stp_bned | exact stp_beq)) | (show Stp _ _ _ _ (.mnmx _ _ _) _; (first | exact stp_max | exact stp_min | exact stp_max3 | exact stp_min3)) | (show Stp _ _ _ _ (.lens _) _; exact stp_lens) | (show Stp _ _ _ _ (.mkf _ _) _; exact stp_mkf) | (show Stp _ _ _ _ (.fld _ _ _ _) _; exact stp_fld) | (show Stp _ _ _ _ (.nilck _) _; exact stp_nilp) | (show Stp _ _ _ _ (.fa _ _) _; exact stp_fa) | (show Stp _ _ _ _ (.bin .xor _ _) _; exact stp_xor) | (show Stp _ _ _ _ (.bin .shr _ _) _; exact stp_shr) | (show Stp _ _ _ _ (.bin .shl _ _) _; exact stp_shl1) | (show Stp _ _ _ _ (.bin .and _ _) _; exact stp_and1) | (show Stp _ _ _ _ (.bin .or _ _) _; exact stp_oru) | (show Stp _ _ _ _ (.un .xor _) _; exact stp_notu) | (show Stp _ _ _ _ (.conv _ _) _; (first | exact stp_convb | exact stp_conv)))) | ((first | apply go_new | apply gq_new | apply gd_new); (next => exact rfl); (next => first | (show Stp _ _ _ _ (.app _ _ _ _) _; exact stp_appI) | (show Stp _ _ _ _ (.bsl _ _ _ _) _; exact stp_bsl) | (show Stp _ _ _ _ (.mks _ _ _ _ _) _; (first | exact stp_mk | exact stp_mkz)) | (show Stp _ _ _ _ (.sl _ _ _ _ _) _; (first | exact stp_from1 | exact stp_from | exact stp_upto))); intro u; try simp only [List.length_cons, List.length_nil, List.nil_append, Nat.zero_add]) | ((first | apply go_is0 | apply gd_is0); (next => exact rfl); (next => first | exact stp_st | exact stp_st21)) | (show GO _ _ _ _ _ (⟨_, some _, _⟩ :: _) _; first | refine go_in (hk := ?_) | refine go_out (hk := ?_) | refine go_void (hk := ?_)) | (show GQ _ _ _ _ _ _ (⟨_, some _, _⟩ :: _) _; first | refine gq_in (hk := ?_) | refine gq_out (hk := ?_) | refine gq_void (hk := ?_)) | (show GK _ _ _ _ (blockK _ _ _); refine gk_past rfl ?_) | (show GC _ _ _ _ _ (.cond _ _ _) _; first | refine gc_yes (h1 := ?_) | refine gc_no (h1 := ?_))))
  refine gc_upv xs.length (fun i v => [(0, a), (3, v), (4, .int .i64 (i : Int))]) (fun i v => [.rwI v i ((xs.map (- ·)).take i), .roI a xs.length xs]) u (hb := ?_)
  intro i v hi I ν m hn
  have hq := hb.nth (by omega) i
  (repeat (first | with_reducible (first | refine go_nil ?_ | refine gk_seq ?_ | refine gc_seq ?_ | refine gc_reg ?_ | refine gc_skip ?_ | refine gk_block ?_ | refine gc_block ?_ | refine gc_exit ?_ | refine gc_ret ?_ | refine gk_seqret ?_ | refine gk_seqexit ?_ | refine gk_blockret ?_ | refine gk_out ?_ | refine gk_loopret ?_ | refine gk_loopexit ?_ | refine gq_nil ?_ | refine gd_nil ?_) | (with_reducible refine gc_drq ?_; intro _) | (with_reducible refine gc_drw ?_; intro _) | ((first | apply go_is | apply gq_is | apply gd_is); (next => exact rfl); (next => first | (show Stp _ _ _ _ (.mv _) _; exact stp_mv) | (show Stp _ _ _ _ (.ixa _ _ _) _; (first | exact stp_ixa | exact stp_ixa0 | exact stp_ixaz)) | (show Stp _ _ _ _ (.ld _ _ _) _; (first | exact stp_ld | exact stp_ldc1 | exact stp_ldb | exact stp_ldc)) | (show Stp _ _ _ _ (.len _) _; exact stp_len) | (show Stp _ _ _ _ (.bin .add _ _) _; (first | exact stp_addn | exact stp_addnn | exact stp_add | exact stp_addu1 | exact stp_addw)) | (show Stp _ _ _ _ (.bin .sub _ _) _; (first | exact stp_subn | exact stp_sub | exact stp_subu1 | exact stp_subw)) | (show Stp _ _ _ _ (.bin .mul _ _) _; (first | exact stp_mul | exact stp_mulw)) | (show Stp _ _ _ _ (.bin .lss _ _) _; exact stp_lt) | (show Stp _ _ _ _ (.bin .gtr _ _) _; exact stp_gt) | (show Stp _ _ _ _ (.bin .eql _ _) _; exact stp_eq) | (show Stp _ _ _ _ (.bin .neq _ _) _; exact stp_ne) | (show Stp _ _ _ _ (.bin .leq _ _) _; exact stp_le) | (show Stp _ _ _ _ (.bin .geq _ _) _; exact stp_ge) | (show Stp _ _ _ _ (.bin .quo _ _) _; exact stp_quon) | (show Stp _ _ _ _ (.bin .rem _ _) _; exact stp_remn) | (show Stp _ _ _ _ (.un .not _) _; (first | exact stp_notd | exact stp_not)) | (show Stp _ _ _ _ (.un .neg _) _; exact stp_neg) | (show Stp _ _ _ _ (.ext _ _) _; exact stp_ext) | (show Stp _ _ _ _ (.pick _ _ _) _; (first | exact stp_pickt | exact stp_pickf | exact stp_pick)) | (show Stp _ _ _ _ (.beq _ _ _) _; (first | exact stp_beqd | exact stp_bned | exact stp_beq)) | (show Stp _ _ _ _ (.mnmx _ _ _) _; (first | exact stp_max | exact stp_min | exact stp_max3 | exact stp_min3)) | (show Stp _ _ _ _ (.lens _) _; exact stp_lens) | (show Stp _ _ _ _ (.mkf _ _) _; exact stp_mkf) | (show Stp _ _ _ _ (.fld _ _ _ _) _; exact stp_fld) | (show Stp _ _ _ _ (.nilck _) _; exact stp_nilp) | (show Stp _ _ _ _ (.fa _ _) _; exact stp_fa) | (show Stp _ _ _ _ (.bin .xor _ _) _; exact stp_xor) | (show Stp _ _ _ _ (.bin .shr _ _) _; exact stp_shr) | (show Stp _ _ _ _ (.bin .shl _ _) _; exact stp_shl1) | (show Stp _ _ _ _ (.bin .and _ _) _; exact stp_and1) | (show Stp _ _ _ _ (.bin .or _ _) _; exact stp_oru) | (show Stp _ _ _ _ (.un .xor _) _; exact stp_notu) | (show Stp _ _ _ _ (.conv _ _) _; (first | exact stp_convb | exact stp_conv)))) | ((first | apply go_new | apply gq_new | apply gd_new); (next => exact rfl); (next => first | (show Stp _ _ _ _ (.app _ _ _ _) _; exact stp_appI) | (show Stp _ _ _ _ (.bsl _ _ _ _) _; exact stp_bsl) | (show Stp _ _ _ _ (.mks _ _ _ _ _) _; (first | exact stp_mk | exact stp_mkz)) | (show Stp _ _ _ _ (.sl _ _ _ _ _) _; (first | exact stp_from1 | exact stp_from | exact stp_upto))); intro u; try simp only [List.length_cons, List.length_nil, List.nil_append, Nat.zero_add]) | ((first | apply go_is0 | apply gd_is0); (next => exact rfl); (next => first | exact stp_st | exact stp_st21)) | (show GO _ _ _ _ _ (⟨_, some _, _⟩ :: _) _; first | refine go_in (hk := ?_) | refine go_out (hk := ?_) | refine go_void (hk := ?_)) | (show GQ _ _ _ _ _ _ (⟨_, some _, _⟩ :: _) _; first | refine gq_in (hk := ?_) | refine gq_out (hk := ?_) | refine gq_void (hk := ?_)) | (show GK _ _ _ _ (blockK _ _ _); refine gk_past rfl ?_) | (show GC _ _ _ _ _ (.cond _ _ _) _; first | refine gc_yes (h1 := ?_) | refine gc_no (h1 := ?_))))
  refine gc_cond rfl (fun h => ?_) (fun h => ?_)
  · (repeat (first | with_reducible (first | refine go_nil ?_ | refine gk_seq ?_ | refine gc_seq ?_ | refine gc_reg ?_ | refine gc_skip ?_ | refine gk_block ?_ | refine gc_block ?_ | refine gc_exit ?_ | refine gc_ret ?_ | refine gk_seqret ?_ | refine gk_seqexit ?_ | refine gk_blockret ?_ | refine gk_out ?_ | refine gk_loopret ?_ | refine gk_loopexit ?_ | refine gq_nil ?_ | refine gd_nil ?_) | (with_reducible refine gc_drq ?_; intro _) | (with_reducible refine gc_drw ?_; intro _) | ((first | apply go_is | apply gq_is | apply gd_is); (next => exact rfl); (next => first | (show Stp _ _ _ _ (.mv _) _; exact stp_mv) | (show Stp _ _ _ _ (.ixa _ _ _) _; (first | exact stp_ixa | exact stp_ixa0 | exact stp_ixaz)) | (show Stp _ _ _ _ (.ld _ _ _) _; (first | exact stp_ld | exact stp_ldc1 | exact stp_ldb | exact stp_ldc)) | (show Stp _ _ _ _ (.len _) _; exact stp_len) | (show Stp _ _ _ _ (.bin .add _ _) _; (first | exact stp_addn | exact stp_addnn | exact stp_add | exact stp_addu1 | exact stp_addw)) | (show Stp _ _ _ _ (.bin .sub _ _) _; (first | exact stp_subn | exact stp_sub | exact stp_subu1 | exact stp_subw)) | (show Stp _ _ _ _ (.bin .mul _ _) _; (first | exact stp_mul | exact stp_mulw)) | (show Stp _ _ _ _ (.bin .lss _ _) _; exact stp_lt) | (show Stp _ _ _ _ (.bin .gtr _ _) _; exact stp_gt) | (show Stp _ _ _ _ (.bin .eql _ _) _; exact stp_eq) | (show Stp _ _ _ _ (.bin .neq _ _) _; exact stp_ne) | (show Stp _ _ _ _ (.bin .leq _ _) _; exact stp_le) | (show Stp _ _ _ _ (.bin .geq _ _) _; exact stp_ge) | (show Stp _ _ _ _ (.bin .quo _ _) _; exact stp_quon) | (show Stp _ _ _ _ (.bin .rem _ _) _; exact stp_remn) | (show Stp _ _ _ _ (.un .not _) _; (first | exact stp_notd | exact stp_not)) | (show Stp _ _ _ _ (.un .neg _) _; exact stp_neg) | (show Stp _ _ _ _ (.ext _ _) _; exact stp_ext) | (show Stp _ _ _ _ (.pick _ _ _) _; (first | exact stp_pickt | exact stp_pickf | exact stp_pick)) | (show Stp _ _ _ _ (.beq _ _ _) _; (first | exact stp_beqd | exact stp_bned | exact stp_beq)) | (show Stp _ _ _ _ (.mnmx _ _ _) _; (first | exact stp_max | exact stp_min | exact stp_max3 | exact stp_min3)) | (show Stp _ _ _ _ (.lens _) _; exact stp_lens) | (show Stp _ _ _ _ (.mkf _ _) _; exact stp_mkf) | (show Stp _ _ _ _ (.fld _ _ _ _) _; exact stp_fld) | (show Stp _ _ _ _ (.nilck _) _; exact stp_nilp) | (show Stp _ _ _ _ (.fa _ _) _; exact stp_fa) | (show Stp _ _ _ _ (.bin .xor _ _) _; exact stp_xor) | (show Stp _ _ _ _ (.bin .shr _ _) _; exact stp_shr) | (show Stp _ _ _ _ (.bin .shl _ _) _; exact stp_shl1) | (show Stp _ _ _ _ (.bin .and _ _) _; exact stp_and1) | (show Stp _ _ _ _ (.bin .or _ _) _; exact stp_oru) | (show Stp _ _ _ _ (.un .xor _) _; exact stp_notu) | (show Stp _ _ _ _ (.conv _ _) _; (first | exact stp_convb | exact stp_conv)))) | ((first | apply go_new | apply gq_new | apply gd_new); (next => exact rfl); (next => first | (show Stp _ _ _ _ (.app _ _ _ _) _; exact stp_appI) | (show Stp _ _ _ _ (.bsl _ _ _ _) _; exact stp_bsl) | (show Stp _ _ _ _ (.mks _ _ _ _ _) _; (first | exact stp_mk | exact stp_mkz)) | (show Stp _ _ _ _ (.sl _ _ _ _ _) _; (first | exact stp_from1 | exact stp_from | exact stp_upto))); intro u; try simp only [List.length_cons, List.length_nil, List.nil_append, Nat.zero_add]) | ((first | apply go_is0 | apply gd_is0); (next => exact rfl); (next => first | exact stp_st | exact stp_st21)) | (show GO _ _ _ _ _ (⟨_, some _, _⟩ :: _) _; first | refine go_in (hk := ?_) | refine go_out (hk := ?_) | refine go_void (hk := ?_)) | (show GQ _ _ _ _ _ _ (⟨_, some _, _⟩ :: _) _; first | refine gq_in (hk := ?_) | refine gq_out (hk := ?_) | refine gq_void (hk := ?_)) | (show GK _ _ _ _ (blockK _ _ _); refine gk_past rfl ?_) | (show GC _ _ _ _ _ (.cond _ _ _) _; first | refine gc_yes (h1 := ?_) | refine gc_no (h1 := ?_))))
    have e2 : (xs.map (- ·)).take (i + 1) = (xs.map (- ·)).take i ++ [- nth xs i] := by
      rw [take_snoc (by simp; omega), getD_map _ (by omega)]
    have hk := hn (by omega) u
    rw [e2] at hk
    exact gk_next hk
  · (repeat (first | with_reducible (first | refine go_nil ?_ | refine gk_seq ?_ | refine gc_seq ?_ | refine gc_reg ?_ | refine gc_skip ?_ | refine gk_block ?_ | refine gc_block ?_ | refine gc_exit ?_ | refine gc_ret ?_ | refine gk_seqret ?_ | refine gk_seqexit ?_ | refine gk_blockret ?_ | refine gk_out ?_ | refine gk_loopret ?_ | refine gk_loopexit ?_ | refine gq_nil ?_ | refine gd_nil ?_) | (with_reducible refine gc_drq ?_; intro _) | (with_reducible refine gc_drw ?_; intro _) | ((first | apply go_is | apply gq_is | apply gd_is); (next => exact rfl); (next => first | (show Stp _ _ _ _ (.mv _) _; exact stp_mv) | (show Stp _ _ _ _ (.ixa _ _ _) _; (first | exact stp_ixa | exact stp_ixa0 | exact stp_ixaz)) | (show Stp _ _ _ _ (.ld _ _ _) _; (first | exact stp_ld | exact stp_ldc1 | exact stp_ldb | exact stp_ldc)) | (show Stp _ _ _ _ (.len _) _; exact stp_len) | (show Stp _ _ _ _ (.bin .add _ _) _; (first | exact stp_addn | exact stp_addnn | exact stp_add | exact stp_addu1 | exact stp_addw)) | (show Stp _ _ _ _ (.bin .sub _ _) _; (first | exact stp_subn | exact stp_sub | exact stp_subu1 | exact stp_subw)) | (show Stp _ _ _ _ (.bin .mul _ _) _; (first | exact stp_mul | exact stp_mulw)) | (show Stp _ _ _ _ (.bin .lss _ _) _; exact stp_lt) | (show Stp _ _ _ _ (.bin .gtr _ _) _; exact stp_gt) | (show Stp _ _ _ _ (.bin .eql _ _) _; exact stp_eq) | (show Stp _ _ _ _ (.bin .neq _ _) _; exact stp_ne) | (show Stp _ _ _ _ (.bin .leq _ _) _; exact stp_le) | (show Stp _ _ _ _ (.bin .geq _ _) _; exact stp_ge) | (show Stp _ _ _ _ (.bin .quo _ _) _; exact stp_quon) | (show Stp _ _ _ _ (.bin .rem _ _) _; exact stp_remn) | (show Stp _ _ _ _ (.un .not _) _; (first | exact stp_notd | exact stp_not)) | (show Stp _ _ _ _ (.un .neg _) _; exact stp_neg) | (show Stp _ _ _ _ (.ext _ _) _; exact stp_ext) | (show Stp _ _ _ _ (.pick _ _ _) _; (first | exact stp_pickt | exact stp_pickf | exact stp_pick)) | (show Stp _ _ _ _ (.beq _ _ _) _; (first | exact stp_beqd | exact stp_bned | exact stp_beq)) | (show Stp _ _ _ _ (.mnmx _ _ _) _; (first | exact stp_max | exact stp_min | exact stp_max3 | exact stp_min3)) | (show Stp _ _ _ _ (.lens _) _; exact stp_lens) | (show Stp _ _ _ _ (.mkf _ _) _; exact stp_mkf) | (show Stp _ _ _ _ (.fld _ _ _ _) _; exact stp_fld) | (show Stp _ _ _ _ (.nilck _) _; exact stp_nilp) | (show Stp _ _ _ _ (.fa _ _) _; exact stp_fa) | (show Stp _ _ _ _ (.bin .xor _ _) _; exact stp_xor) | (show Stp _ _ _ _ (.bin .shr _ _) _; exact stp_shr) | (show Stp _ _ _ _ (.bin .shl _ _) _; exact stp_shl1) | (show Stp _ _ _ _ (.bin .and _ _) _; exact stp_and1) | (show Stp _ _ _ _ (.bin .or _ _) _; exact stp_oru) | (show Stp _ _ _ _ (.un .xor _) _; exact stp_notu) | (show Stp _ _ _ _ (.conv _ _) _; (first | exact stp_convb | exact stp_conv)))) | ((first | apply go_new | apply gq_new | apply gd_new); (next => exact rfl); (next => first | (show Stp _ _ _ _ (.app _ _ _ _) _; exact stp_appI) | (show Stp _ _ _ _ (.bsl _ _ _ _) _; exact stp_bsl) | (show Stp _ _ _ _ (.mks _ _ _ _ _) _; (first | exact stp_mk | exact stp_mkz)) | (show Stp _ _ _ _ (.sl _ _ _ _ _) _; (first | exact stp_from1 | exact stp_from | exact stp_upto))); intro u; try simp only [List.length_cons, List.length_nil, List.nil_append, Nat.zero_add]) | ((first | apply go_is0 | apply gd_is0); (next => exact rfl); (next => first | exact stp_st | exact stp_st21)) | (show GO _ _ _ _ _ (⟨_, some _, _⟩ :: _) _; first | refine go_in (hk := ?_) | refine go_out (hk := ?_) | refine go_void (hk := ?_)) | (show GQ _ _ _ _ _ _ (⟨_, some _, _⟩ :: _) _; first | refine gq_in (hk := ?_) | refine gq_out (hk := ?_) | refine gq_void (hk := ?_)) | (show GK _ _ _ _ (blockK _ _ _); refine gk_past rfl ?_) | (show GC _ _ _ _ _ (.cond _ _ _) _; first | refine gc_yes (h1 := ?_) | refine gc_no (h1 := ?_))))
    have : i = xs.length := by omega
    subst this
    refine gk_ret rfl fun H' hH => ?_
    have e : (xs.map (- ·)).take xs.length = xs.map (- ·) := List.take_of_length_le (by simp)
    rw [e] at hH
    have := hH.give .head
    unfold OwnI
    rw [List.length_map]
    exact this

theorem bytes_of {bs : List Int} (h : ∀ x ∈ bs, (Lit.int .u8 x).wf = true) (i : Nat) : 0 ≤ nth bs i ∧ nth bs i ≤ 255 := by
  by_cases hi : i < bs.length
  · have := h _ (nth_mem hi)
    simp [Lit.wf, IntKind.min, IntKind.max, IntKind.signed, IntKind.bits] at this
    omega
  · have : nth bs i = 0 := by simp [nth, Nat.le_of_not_lt hi]
    omega

/-- 2 for what is greater, 1 for the same -/
def vs (x y : Int) : Int := if y < x then 2 else if y = x then 1 else 0

def score (x : Int) : List Int → Int
  | [] => 0
  | y :: m => vs x y + score x m

def pairS : List Int → List Int → Int
  | [], _ => 0
  | x :: l, m => score x m + pairS l m

theorem vs_vs (x y : Int) : vs x y + vs y x = 2 := by
  unfold vs
  rcases Int.lt_trichotomy x y with h | h | h
  · rw [if_neg (by omega), if_neg (by omega), if_pos h]; rfl
  · subst h; rw [if_neg (by omega), if_pos rfl]; rfl
  · rw [if_pos h, if_neg (by omega), if_neg (by omega)]; rfl

theorem score_rank (x : Int) : ∀ m : List Int, score x m = 2 * (m.countP (fun y => decide (y < x)) : Int) + (m.countP (fun y => decide (y = x)) : Int)
  | [] => rfl
  | y :: m => by
    rw [score, score_rank x m, List.countP_cons, List.countP_cons]
    unfold vs
    rcases Int.lt_trichotomy y x with h | h | h
    · have : ¬ y = x := by omega
      simp [h, this]; omega
    · subst h; simp; omega
    · have h1 : ¬ y = x := by omega
      have h2 : ¬ y < x := by omega
      simp [h1, h2]

theorem rank_score (xs : List Int) (x : Int) : rank xs x = score x xs + 1 := by rw [score_rank, rank]

theorem pair_cons (l : List Int) (a : Int) (m : List Int) : pairS l (a :: m) = pairS l [a] + pairS l m := by
  induction l with
  | nil => rfl
  | cons x l ih => simp only [pairS, ih, score]; omega

theorem pair_one (a : Int) : ∀ l : List Int, pairS l [a] + score a l = 2 * l.length
  | [] => rfl
  | x :: l => by
    have := pair_one a l
    have h := vs_vs x a
    simp only [pairS, score, List.length_cons]; omega

theorem pair_both : ∀ l m : List Int, pairS l m + pairS m l = 2 * ((l.length * m.length : Nat) : Int)
  | [], m => by
    have : ∀ m : List Int, pairS m [] = 0 := by
      intro m; induction m with
      | nil => rfl
      | cons x m ih => simp [pairS, score, ih]
    simp [pairS, this]
  | x :: l, m => by
    have h1 := pair_both l m
    have h2 := pair_cons m x l
    have h3 := pair_one x m
    have e : (x :: l).length * m.length = l.length * m.length + m.length := by rw [List.length_cons, Nat.add_mul, Nat.one_mul]
    rw [pairS, h2, e]; omega

theorem pair_self (l : List Int) : pairS l l = ((l.length * l.length : Nat) : Int) := by have := pair_both l l; omega

theorem sum_ranks (l m : List Int) : sumL (l.map (rank m)) = pairS l m + l.length := by
  induction l with
  | nil => rfl
  | cons x l ih => simp only [List.map_cons, sumL, ih, pairS, rank_score, List.length_cons]; omega

theorem sum_ranksL (l : List Int) : sumL (ranksL l) = (l.length : Int) * (l.length + 1) := by
  rw [ranksL, sum_ranks, pair_self, Int.mul_add]; simp

/-- with the other signs -/
def negL (xs : List Int) : List Int := xs.map (- ·)

theorem negL_length (xs : List Int) : (negL xs).length = xs.length := by simp [negL]

theorem data_neg {xs : List Int} (h : Data xs) : Data (negL xs) := by
  refine ⟨by rw [negL_length]; exact h.1, fun i hi => ?_⟩
  rw [negL_length] at hi
  have := h.2 i hi
  rw [negL, getD_map _ hi]; omega

theorem Data.app {xs ys : List Int} (h : Samples xs ys) : Data (xs ++ ys) := by
  obtain ⟨⟨h1, h2⟩, h3, h4, h5⟩ := h
  refine ⟨by simp; omega, fun i hi => ?_⟩
  by_cases h6 : i < xs.length
  · have : nth (xs ++ ys) i = nth xs i := by simp [nth, List.getElem?_append_left h6]
    rw [this]; exact h1.2 i h6
  · have : nth (xs ++ ys) i = nth ys (i - xs.length) := by simp [nth, List.getElem?_append_right (by omega : xs.length ≤ i)]
    rw [this]; exact h2.2 _ (by simp at hi; omega)

theorem filter_neg (l : List Int) : (negL l).filter (fun x => decide (x ≠ 0)) = negL (l.filter (fun x => decide (x ≠ 0))) := by
  induction l with
  | nil => rfl
  | cons x l ih =>
    unfold negL at ih ⊢
    by_cases h : x = 0
    · subst h; simpa using ih
    · have h2 : -x ≠ 0 := by omega
      simp [h]; simpa using ih

theorem nz_neg (xs : List Int) : nzL (negL xs) = negL (nzL xs) := by
  unfold nzL nzT
  rw [List.take_length, List.take_length, filter_neg]

theorem abs_neg (l : List Int) : absL (negL l) = absL l := by
  unfold absL negL
  rw [List.map_map]
  apply List.map_congr_left
  intro x _
  simp only [Function.comp]; omega

theorem pos_neg {r l : List Int} (h : ∀ x ∈ l, x ≠ 0) : ∀ i, i ≤ l.length → posTo r (negL l) i = negTo r l i ∧ negTo r (negL l) i = posTo r l i
  | 0, _ => ⟨rfl, rfl⟩
  | i + 1, hi => by
    obtain ⟨h1, h2⟩ := pos_neg (r := r) h i (by omega)
    have h3 := h _ (nth_mem (xs := l) (i := i) (by omega))
    rw [posTo, negTo, negTo, posTo, h1, h2]
    have e : nth (negL l) i = - nth l i := by rw [negL, getD_map _ (by omega)]
    rw [e]
    by_cases h4 : 0 < nth l i
    · rw [if_neg (by omega), if_pos h4, if_neg (by omega), if_pos h4]; exact ⟨rfl, rfl⟩
    · rw [if_pos (by omega), if_neg h4, if_pos (by omega), if_neg h4]; exact ⟨rfl, rfl⟩

theorem pos_sum (r l : List Int) : ∀ i, posTo r l i + negTo r l i = sumI r i
  | 0 => rfl
  | i + 1 => by
    have := pos_sum r l i
    rw [posTo, negTo, sumI]; split <;> omega

theorem nz_mem (xs : List Int) : ∀ x ∈ nzL xs, x ≠ 0 := by
  intro x hx
  simp only [nzL, nzT, List.mem_filter] at hx
  exact of_decide_eq_true hx.2

theorem sign_facts {xs : List Int} (h : Data xs) : signA xs + signB xs = (nzL xs).length * (((nzL xs).length : Int) + 1) ∧ signA (negL xs) = signB xs ∧ signB (negL xs) = signA xs := by
  have hn := data_neg h
  have e1 : (ranksL (absL (nzL xs))).length = (nzL xs).length := by rw [ranksL_length, absL_length]
  refine ⟨?_, ?_, ?_⟩
  · rw [signA, signB, if_pos h, if_pos h, pos_sum]
    rw [← e1, sumI_all, sum_ranksL, absL_length, e1]
  · rw [signA, signB, if_pos h, if_pos hn, nz_neg, abs_neg, negL_length]
    exact (pos_neg (nz_mem xs) _ (Nat.le_refl _)).1
  · rw [signA, signB, if_pos h, if_pos hn, nz_neg, abs_neg, negL_length]
    exact (pos_neg (nz_mem xs) _ (Nat.le_refl _)).2

theorem sign_le (xs : List Int) : -1000000 ≤ signA xs ∧ signA xs ≤ 1000000 ∧ -1000000 ≤ signB xs ∧ signB xs ≤ 1000000 := by
  unfold signA signB
  by_cases h : Data xs
  · rw [if_pos h, if_pos h]
    have hz : (nzL xs).length ≤ xs.length := nzT_le xs _
    have hd := h.1
    have hb := ranksL_bd (xs := absL (nzL xs)) (by rw [absL_length]; omega)
    have h1 := posTo_le hb (by omega) (nzL xs) (nzL xs).length
    have h2 := negTo_le hb (by omega) (nzL xs) (nzL xs).length
    omega
  · rw [if_neg h, if_neg h]; omega

end Go.Rx.Try
