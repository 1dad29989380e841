import Derived.Test.YtpibmmkghedmaaaFnGapChanceD2
namespace Go.Rx.Try
open Go.Proofs
set_option maxRecDepth 100000
set_option maxHeartbeats 8000000
set_option linter.unusedSimpArgs false
set_option linter.unusedVariables false

theorem sortTo_bd {b : Int} {xs : List Int} (h : Bd b xs) (hb : 0 ≤ b) : ∀ i, Bd b (sortTo xs i)
  | 0 => by simp [Bd, sortTo]
  | i + 1 => insN_bd (sortTo_bd h hb i) (h.nth hb i)

theorem sortL_bd {xs : List Int} (h : Data xs) : Bd 200 (sortL xs) := sortTo_bd h.bd (by omega) _

theorem insN_perm (x : Int) : ∀ l : List Int, (insN x l).Perm (x :: l)
  | [] => .refl _
  | y :: l => by
    unfold insN
    split
    · exact ((insN_perm x l).cons y).trans (.swap x y l)
    · exact .refl _

theorem sortTo_perm (xs : List Int) : ∀ i, i ≤ xs.length → (sortTo xs i).Perm (xs.take i)
  | 0, _ => .refl _
  | i + 1, h => by
    rw [sortTo, take_snoc (by omega)]
    refine (insN_perm _ _).trans ?_
    refine ((sortTo_perm xs i (by omega)).cons _).trans ?_
    exact (List.perm_append_singleton _ _).symm

theorem sortL_perm (xs : List Int) : (sortL xs).Perm xs := by
  have := sortTo_perm xs xs.length (Nat.le_refl _)
  rwa [List.take_length] at this

theorem sortL_up (xs : List Int) : Up (sortL xs) := sortTo_up xs _

def cntV (xs : List Int) (v : Int) : Nat := xs.countP fun x => decide (x = v)

/-- how many are the same, from -200 on -/
def tieTo (xs : List Int) : Nat → List Int
  | 0 => []
  | j + 1 => if 1 < cntV xs ((j : Int) - 200) then tieTo xs j ++ [(cntV xs ((j : Int) - 200) : Int)] else tieTo xs j

noncomputable def tiesOf (xs : List Int) : List Int := if Data xs then tieTo xs 401 else []

theorem tieTo_le (xs : List Int) : ∀ j, (tieTo xs j).length ≤ j
  | 0 => by simp [tieTo]
  | j + 1 => by
    have := tieTo_le xs j
    rw [tieTo]; split
    · simp; omega
    · omega

theorem specTiesOf_ok {H : Heap} {a : AV} {xs : List Int} (ha : Ints H a xs) (hl : xs.length ≤ 1000000000) :
    ACalls Try.prog fn_spec_TiesOf [a] H fun r H' => OwnI H H' r (tiesOf xs) ∧ Le H H' := by
  refine code_spec_TiesOf.go [.roI a xs.length xs] ⟨⟨rfl, ha⟩, trivial⟩ (by simp) ?_
  unfold mc_spec_TiesOf
  (repeat (first | with_reducible (first | refine go_nil ?_ | refine gk_seq ?_ | refine gc_seq ?_ | refine gc_reg ?_ | refine gc_skip ?_ | refine gk_block ?_ | refine gc_block ?_ | refine gc_exit ?_ | refine gc_ret ?_ | refine gk_seqret ?_ | refine gk_seqexit ?_ | refine gk_blockret ?_ | refine gk_out ?_ | refine gk_loopret ?_ | refine gk_loopexit ?_) | (show GO _ _ _ _ _ (⟨some _, none, .call _ _⟩ :: _) _; first | (show GO _ _ _ _ _ (⟨some _, none, .call fn_spec_validData _⟩ :: _) _; refine go_specValid (hk := ?_); try intro u)) | (show GO _ _ _ _ _ (⟨some _, none, _⟩ :: _) _; first | refine go_op (hk := ?_) | (refine go_nw (hk := ?_); intro u; try simp only [List.length_cons, List.length_nil, List.nil_append, Nat.zero_add]) | (refine go_np (hk := ?_); intro id)) | (show GO _ _ _ _ _ (⟨none, none, _⟩ :: _) _; refine go_st (hk := ?_)) | (show GO _ _ _ _ _ (⟨_, some _, _⟩ :: _) _; first | refine go_in (hk := ?_) | refine go_out (hk := ?_) | refine go_void (hk := ?_)) | (show GK _ _ _ _ (blockK _ _ _); refine gk_past rfl ?_) | (show GC _ _ _ _ _ (.cond _ _ _) _; first | refine gc_yes (h1 := ?_) | refine gc_no (h1 := ?_))))
  refine gc_cond rfl (fun h => ?_) (fun h => ?_)
  · (repeat (first | with_reducible (first | refine go_nil ?_ | refine gk_seq ?_ | refine gc_seq ?_ | refine gc_reg ?_ | refine gc_skip ?_ | refine gk_block ?_ | refine gc_block ?_ | refine gc_exit ?_ | refine gc_ret ?_ | refine gk_seqret ?_ | refine gk_seqexit ?_ | refine gk_blockret ?_ | refine gk_out ?_ | refine gk_loopret ?_ | refine gk_loopexit ?_) | (show GO _ _ _ _ _ (⟨some _, none, .call _ _⟩ :: _) _; first | (show GO _ _ _ _ _ (⟨some _, none, .call fn_spec_validData _⟩ :: _) _; refine go_specValid (hk := ?_); try intro u)) | (show GO _ _ _ _ _ (⟨some _, none, _⟩ :: _) _; first | refine go_op (hk := ?_) | (refine go_nw (hk := ?_); intro u; try simp only [List.length_cons, List.length_nil, List.nil_append, Nat.zero_add]) | (refine go_np (hk := ?_); intro id)) | (show GO _ _ _ _ _ (⟨none, none, _⟩ :: _) _; refine go_st (hk := ?_)) | (show GO _ _ _ _ _ (⟨_, some _, _⟩ :: _) _; first | refine go_in (hk := ?_) | refine go_out (hk := ?_) | refine go_void (hk := ?_)) | (show GK _ _ _ _ (blockK _ _ _); refine gk_past rfl ?_) | (show GC _ _ _ _ _ (.cond _ _ _) _; first | refine gc_yes (h1 := ?_) | refine gc_no (h1 := ?_))))
    refine gk_ret rfl fun H' hH => ⟨?_, hH.leE⟩
    simp only [tiesOf, if_neg h]
    exact Own.nil _ _ _
  have h : Data xs := Decidable.not_not.1 h
  have hx := h.1
  (repeat (first | with_reducible (first | refine go_nil ?_ | refine gk_seq ?_ | refine gc_seq ?_ | refine gc_reg ?_ | refine gc_skip ?_ | refine gk_block ?_ | refine gc_block ?_ | refine gc_exit ?_ | refine gc_ret ?_ | refine gk_seqret ?_ | refine gk_seqexit ?_ | refine gk_blockret ?_ | refine gk_out ?_ | refine gk_loopret ?_ | refine gk_loopexit ?_) | (show GO _ _ _ _ _ (⟨some _, none, .call _ _⟩ :: _) _; first | (show GO _ _ _ _ _ (⟨some _, none, .call fn_spec_validData _⟩ :: _) _; refine go_specValid (hk := ?_); try intro u)) | (show GO _ _ _ _ _ (⟨some _, none, _⟩ :: _) _; first | refine go_op (hk := ?_) | (refine go_nw (hk := ?_); intro u; try simp only [List.length_cons, List.length_nil, List.nil_append, Nat.zero_add]) | (refine go_np (hk := ?_); intro id)) | (show GO _ _ _ _ _ (⟨none, none, _⟩ :: _) _; refine go_st (hk := ?_)) | (show GO _ _ _ _ _ (⟨_, some _, _⟩ :: _) _; first | refine go_in (hk := ?_) | refine go_out (hk := ?_) | refine go_void (hk := ?_)) | (show GK _ _ _ _ (blockK _ _ _); refine gk_past rfl ?_) | (show GC _ _ _ _ _ (.cond _ _ _) _; first | refine gc_yes (h1 := ?_) | refine gc_no (h1 := ?_))))
  refine gc_upv 401 (fun j v => [(0, a), (3, v), (4, .int .i64 ((j : Int) - 200))]) (fun j v => [.rwI v (tieTo xs j).length (tieTo xs j), .roI a xs.length xs]) u (hb := ?_)
  intro j v hj I ν m hn
  have hjl := tieTo_le xs j
  (repeat (first | with_reducible (first | refine go_nil ?_ | refine gk_seq ?_ | refine gc_seq ?_ | refine gc_reg ?_ | refine gc_skip ?_ | refine gk_block ?_ | refine gc_block ?_ | refine gc_exit ?_ | refine gc_ret ?_ | refine gk_seqret ?_ | refine gk_seqexit ?_ | refine gk_blockret ?_ | refine gk_out ?_ | refine gk_loopret ?_ | refine gk_loopexit ?_) | (show GO _ _ _ _ _ (⟨some _, none, .call _ _⟩ :: _) _; first | (show GO _ _ _ _ _ (⟨some _, none, .call fn_spec_validData _⟩ :: _) _; refine go_specValid (hk := ?_); try intro u)) | (show GO _ _ _ _ _ (⟨some _, none, _⟩ :: _) _; first | refine go_op (hk := ?_) | (refine go_nw (hk := ?_); intro u; try simp only [List.length_cons, List.length_nil, List.nil_append, Nat.zero_add]) | (refine go_np (hk := ?_); intro id)) | (show GO _ _ _ _ _ (⟨none, none, _⟩ :: _) _; refine go_st (hk := ?_)) | (show GO _ _ _ _ _ (⟨_, some _, _⟩ :: _) _; first | refine go_in (hk := ?_) | refine go_out (hk := ?_) | refine go_void (hk := ?_)) | (show GK _ _ _ _ (blockK _ _ _); refine gk_past rfl ?_) | (show GC _ _ _ _ _ (.cond _ _ _) _; first | refine gc_yes (h1 := ?_) | refine gc_no (h1 := ?_))))
  refine gc_cond rfl (fun h1 => ?_) (fun h1 => ?_)
  · (repeat (first | with_reducible (first | refine go_nil ?_ | refine gk_seq ?_ | refine gc_seq ?_ | refine gc_reg ?_ | refine gc_skip ?_ | refine gk_block ?_ | refine gc_block ?_ | refine gc_exit ?_ | refine gc_ret ?_ | refine gk_seqret ?_ | refine gk_seqexit ?_ | refine gk_blockret ?_ | refine gk_out ?_ | refine gk_loopret ?_ | refine gk_loopexit ?_) | (show GO _ _ _ _ _ (⟨some _, none, .call _ _⟩ :: _) _; first | (show GO _ _ _ _ _ (⟨some _, none, .call fn_spec_validData _⟩ :: _) _; refine go_specValid (hk := ?_); try intro u)) | (show GO _ _ _ _ _ (⟨some _, none, _⟩ :: _) _; first | refine go_op (hk := ?_) | (refine go_nw (hk := ?_); intro u; try simp only [List.length_cons, List.length_nil, List.nil_append, Nat.zero_add]) | (refine go_np (hk := ?_); intro id)) | (show GO _ _ _ _ _ (⟨none, none, _⟩ :: _) _; refine go_st (hk := ?_)) | (show GO _ _ _ _ _ (⟨_, some _, _⟩ :: _) _; first | refine go_in (hk := ?_) | refine go_out (hk := ?_) | refine go_void (hk := ?_)) | (show GK _ _ _ _ (blockK _ _ _); refine gk_past rfl ?_) | (show GC _ _ _ _ _ (.cond _ _ _) _; first | refine gc_yes (h1 := ?_) | refine gc_no (h1 := ?_))))
    refine gc_up xs.length (fun i => [(0, a), (3, v), (4, .int .i64 ((j : Int) - 200)), (5, .int .i64 (cnt (fun x => decide (x = (j : Int) - 200)) xs i : Nat)), (6, .int .i64 (i : Int))]) (fun i => [.rwI v (tieTo xs j).length (tieTo xs j), .roI a xs.length xs]) (hb := ?_)
    intro i hi I' ν' m' hn'
    have hc := cnt_le (fun x => decide (x = (j : Int) - 200)) xs i
    (repeat (first | with_reducible (first | refine go_nil ?_ | refine gk_seq ?_ | refine gc_seq ?_ | refine gc_reg ?_ | refine gc_skip ?_ | refine gk_block ?_ | refine gc_block ?_ | refine gc_exit ?_ | refine gc_ret ?_ | refine gk_seqret ?_ | refine gk_seqexit ?_ | refine gk_blockret ?_ | refine gk_out ?_ | refine gk_loopret ?_ | refine gk_loopexit ?_) | (show GO _ _ _ _ _ (⟨some _, none, .call _ _⟩ :: _) _; first | (show GO _ _ _ _ _ (⟨some _, none, .call fn_spec_validData _⟩ :: _) _; refine go_specValid (hk := ?_); try intro u)) | (show GO _ _ _ _ _ (⟨some _, none, _⟩ :: _) _; first | refine go_op (hk := ?_) | (refine go_nw (hk := ?_); intro u; try simp only [List.length_cons, List.length_nil, List.nil_append, Nat.zero_add]) | (refine go_np (hk := ?_); intro id)) | (show GO _ _ _ _ _ (⟨none, none, _⟩ :: _) _; refine go_st (hk := ?_)) | (show GO _ _ _ _ _ (⟨_, some _, _⟩ :: _) _; first | refine go_in (hk := ?_) | refine go_out (hk := ?_) | refine go_void (hk := ?_)) | (show GK _ _ _ _ (blockK _ _ _); refine gk_past rfl ?_) | (show GC _ _ _ _ _ (.cond _ _ _) _; first | refine gc_yes (h1 := ?_) | refine gc_no (h1 := ?_))))
    refine gc_cond rfl (fun h2 => ?_) (fun h2 => ?_)
    · have s1 := cnt_succ (fun x => decide (x = (j : Int) - 200)) (xs := xs) (i := i) (by omega)
      have hn' := hn' (by omega)
      simp only [decide_eq_true_eq] at s1
      rw [s1] at hn'
      (repeat (first | with_reducible (first | refine go_nil ?_ | refine gk_seq ?_ | refine gc_seq ?_ | refine gc_reg ?_ | refine gc_skip ?_ | refine gk_block ?_ | refine gc_block ?_ | refine gc_exit ?_ | refine gc_ret ?_ | refine gk_seqret ?_ | refine gk_seqexit ?_ | refine gk_blockret ?_ | refine gk_out ?_ | refine gk_loopret ?_ | refine gk_loopexit ?_) | (show GO _ _ _ _ _ (⟨some _, none, .call _ _⟩ :: _) _; first | (show GO _ _ _ _ _ (⟨some _, none, .call fn_spec_validData _⟩ :: _) _; refine go_specValid (hk := ?_); try intro u)) | (show GO _ _ _ _ _ (⟨some _, none, _⟩ :: _) _; first | refine go_op (hk := ?_) | (refine go_nw (hk := ?_); intro u; try simp only [List.length_cons, List.length_nil, List.nil_append, Nat.zero_add]) | (refine go_np (hk := ?_); intro id)) | (show GO _ _ _ _ _ (⟨none, none, _⟩ :: _) _; refine go_st (hk := ?_)) | (show GO _ _ _ _ _ (⟨_, some _, _⟩ :: _) _; first | refine go_in (hk := ?_) | refine go_out (hk := ?_) | refine go_void (hk := ?_)) | (show GK _ _ _ _ (blockK _ _ _); refine gk_past rfl ?_) | (show GC _ _ _ _ _ (.cond _ _ _) _; first | refine gc_yes (h1 := ?_) | refine gc_no (h1 := ?_))))
      refine gc_cond rfl (fun h3 => ?_) (fun h3 => ?_)
      · rw [if_pos h3] at hn'
        (repeat (first | with_reducible (first | refine go_nil ?_ | refine gk_seq ?_ | refine gc_seq ?_ | refine gc_reg ?_ | refine gc_skip ?_ | refine gk_block ?_ | refine gc_block ?_ | refine gc_exit ?_ | refine gc_ret ?_ | refine gk_seqret ?_ | refine gk_seqexit ?_ | refine gk_blockret ?_ | refine gk_out ?_ | refine gk_loopret ?_ | refine gk_loopexit ?_) | (show GO _ _ _ _ _ (⟨some _, none, .call _ _⟩ :: _) _; first | (show GO _ _ _ _ _ (⟨some _, none, .call fn_spec_validData _⟩ :: _) _; refine go_specValid (hk := ?_); try intro u)) | (show GO _ _ _ _ _ (⟨some _, none, _⟩ :: _) _; first | refine go_op (hk := ?_) | (refine go_nw (hk := ?_); intro u; try simp only [List.length_cons, List.length_nil, List.nil_append, Nat.zero_add]) | (refine go_np (hk := ?_); intro id)) | (show GO _ _ _ _ _ (⟨none, none, _⟩ :: _) _; refine go_st (hk := ?_)) | (show GO _ _ _ _ _ (⟨_, some _, _⟩ :: _) _; first | refine go_in (hk := ?_) | refine go_out (hk := ?_) | refine go_void (hk := ?_)) | (show GK _ _ _ _ (blockK _ _ _); refine gk_past rfl ?_) | (show GC _ _ _ _ _ (.cond _ _ _) _; first | refine gc_yes (h1 := ?_) | refine gc_no (h1 := ?_))))
        exact gk_next hn'
      · rw [if_neg h3] at hn'
        (repeat (first | with_reducible (first | refine go_nil ?_ | refine gk_seq ?_ | refine gc_seq ?_ | refine gc_reg ?_ | refine gc_skip ?_ | refine gk_block ?_ | refine gc_block ?_ | refine gc_exit ?_ | refine gc_ret ?_ | refine gk_seqret ?_ | refine gk_seqexit ?_ | refine gk_blockret ?_ | refine gk_out ?_ | refine gk_loopret ?_ | refine gk_loopexit ?_) | (show GO _ _ _ _ _ (⟨some _, none, .call _ _⟩ :: _) _; first | (show GO _ _ _ _ _ (⟨some _, none, .call fn_spec_validData _⟩ :: _) _; refine go_specValid (hk := ?_); try intro u)) | (show GO _ _ _ _ _ (⟨some _, none, _⟩ :: _) _; first | refine go_op (hk := ?_) | (refine go_nw (hk := ?_); intro u; try simp only [List.length_cons, List.length_nil, List.nil_append, Nat.zero_add]) | (refine go_np (hk := ?_); intro id)) | (show GO _ _ _ _ _ (⟨none, none, _⟩ :: _) _; refine go_st (hk := ?_)) | (show GO _ _ _ _ _ (⟨_, some _, _⟩ :: _) _; first | refine go_in (hk := ?_) | refine go_out (hk := ?_) | refine go_void (hk := ?_)) | (show GK _ _ _ _ (blockK _ _ _); refine gk_past rfl ?_) | (show GC _ _ _ _ _ (.cond _ _ _) _; first | refine gc_yes (h1 := ?_) | refine gc_no (h1 := ?_))))
        exact gk_next hn'
    · have : i = xs.length := by omega
      subst this
      have e1 : cnt (fun x => decide (x = (j : Int) - 200)) xs xs.length = cntV xs ((j : Int) - 200) := cnt_all _ _
      have hn := hn (by omega)
      rw [tieTo, ← e1] at hn
      (repeat (first | with_reducible (first | refine go_nil ?_ | refine gk_seq ?_ | refine gc_seq ?_ | refine gc_reg ?_ | refine gc_skip ?_ | refine gk_block ?_ | refine gc_block ?_ | refine gc_exit ?_ | refine gc_ret ?_ | refine gk_seqret ?_ | refine gk_seqexit ?_ | refine gk_blockret ?_ | refine gk_out ?_ | refine gk_loopret ?_ | refine gk_loopexit ?_) | (show GO _ _ _ _ _ (⟨some _, none, .call _ _⟩ :: _) _; first | (show GO _ _ _ _ _ (⟨some _, none, .call fn_spec_validData _⟩ :: _) _; refine go_specValid (hk := ?_); try intro u)) | (show GO _ _ _ _ _ (⟨some _, none, _⟩ :: _) _; first | refine go_op (hk := ?_) | (refine go_nw (hk := ?_); intro u; try simp only [List.length_cons, List.length_nil, List.nil_append, Nat.zero_add]) | (refine go_np (hk := ?_); intro id)) | (show GO _ _ _ _ _ (⟨none, none, _⟩ :: _) _; refine go_st (hk := ?_)) | (show GO _ _ _ _ _ (⟨_, some _, _⟩ :: _) _; first | refine go_in (hk := ?_) | refine go_out (hk := ?_) | refine go_void (hk := ?_)) | (show GK _ _ _ _ (blockK _ _ _); refine gk_past rfl ?_) | (show GC _ _ _ _ _ (.cond _ _ _) _; first | refine gc_yes (h1 := ?_) | refine gc_no (h1 := ?_))))
      refine gc_cond rfl (fun h4 => ?_) (fun h4 => ?_)
      · rw [if_pos (by omega)] at hn
        simp only [List.length_append, List.length_cons, List.length_nil, Nat.zero_add] at hn
        (repeat (first | with_reducible (first | refine go_nil ?_ | refine gk_seq ?_ | refine gc_seq ?_ | refine gc_reg ?_ | refine gc_skip ?_ | refine gk_block ?_ | refine gc_block ?_ | refine gc_exit ?_ | refine gc_ret ?_ | refine gk_seqret ?_ | refine gk_seqexit ?_ | refine gk_blockret ?_ | refine gk_out ?_ | refine gk_loopret ?_ | refine gk_loopexit ?_) | (show GO _ _ _ _ _ (⟨some _, none, .call _ _⟩ :: _) _; first | (show GO _ _ _ _ _ (⟨some _, none, .call fn_spec_validData _⟩ :: _) _; refine go_specValid (hk := ?_); try intro u)) | (show GO _ _ _ _ _ (⟨some _, none, _⟩ :: _) _; first | refine go_op (hk := ?_) | (refine go_nw (hk := ?_); intro u; try simp only [List.length_cons, List.length_nil, List.nil_append, Nat.zero_add]) | (refine go_np (hk := ?_); intro id)) | (show GO _ _ _ _ _ (⟨none, none, _⟩ :: _) _; refine go_st (hk := ?_)) | (show GO _ _ _ _ _ (⟨_, some _, _⟩ :: _) _; first | refine go_in (hk := ?_) | refine go_out (hk := ?_) | refine go_void (hk := ?_)) | (show GK _ _ _ _ (blockK _ _ _); refine gk_past rfl ?_) | (show GC _ _ _ _ _ (.cond _ _ _) _; first | refine gc_yes (h1 := ?_) | refine gc_no (h1 := ?_))))
        exact gk_next (hn u)
      · rw [if_neg (by omega)] at hn
        (repeat (first | with_reducible (first | refine go_nil ?_ | refine gk_seq ?_ | refine gc_seq ?_ | refine gc_reg ?_ | refine gc_skip ?_ | refine gk_block ?_ | refine gc_block ?_ | refine gc_exit ?_ | refine gc_ret ?_ | refine gk_seqret ?_ | refine gk_seqexit ?_ | refine gk_blockret ?_ | refine gk_out ?_ | refine gk_loopret ?_ | refine gk_loopexit ?_) | (show GO _ _ _ _ _ (⟨some _, none, .call _ _⟩ :: _) _; first | (show GO _ _ _ _ _ (⟨some _, none, .call fn_spec_validData _⟩ :: _) _; refine go_specValid (hk := ?_); try intro u)) | (show GO _ _ _ _ _ (⟨some _, none, _⟩ :: _) _; first | refine go_op (hk := ?_) | (refine go_nw (hk := ?_); intro u; try simp only [List.length_cons, List.length_nil, List.nil_append, Nat.zero_add]) | (refine go_np (hk := ?_); intro id)) | (show GO _ _ _ _ _ (⟨none, none, _⟩ :: _) _; refine go_st (hk := ?_)) | (show GO _ _ _ _ _ (⟨_, some _, _⟩ :: _) _; first | refine go_in (hk := ?_) | refine go_out (hk := ?_) | refine go_void (hk := ?_)) | (show GK _ _ _ _ (blockK _ _ _); refine gk_past rfl ?_) | (show GC _ _ _ _ _ (.cond _ _ _) _; first | refine gc_yes (h1 := ?_) | refine gc_no (h1 := ?_))))
        exact gk_next (hn v)
  · (repeat (first | with_reducible (first | refine go_nil ?_ | refine gk_seq ?_ | refine gc_seq ?_ | refine gc_reg ?_ | refine gc_skip ?_ | refine gk_block ?_ | refine gc_block ?_ | refine gc_exit ?_ | refine gc_ret ?_ | refine gk_seqret ?_ | refine gk_seqexit ?_ | refine gk_blockret ?_ | refine gk_out ?_ | refine gk_loopret ?_ | refine gk_loopexit ?_) | (show GO _ _ _ _ _ (⟨some _, none, .call _ _⟩ :: _) _; first | (show GO _ _ _ _ _ (⟨some _, none, .call fn_spec_validData _⟩ :: _) _; refine go_specValid (hk := ?_); try intro u)) | (show GO _ _ _ _ _ (⟨some _, none, _⟩ :: _) _; first | refine go_op (hk := ?_) | (refine go_nw (hk := ?_); intro u; try simp only [List.length_cons, List.length_nil, List.nil_append, Nat.zero_add]) | (refine go_np (hk := ?_); intro id)) | (show GO _ _ _ _ _ (⟨none, none, _⟩ :: _) _; refine go_st (hk := ?_)) | (show GO _ _ _ _ _ (⟨_, some _, _⟩ :: _) _; first | refine go_in (hk := ?_) | refine go_out (hk := ?_) | refine go_void (hk := ?_)) | (show GK _ _ _ _ (blockK _ _ _); refine gk_past rfl ?_) | (show GC _ _ _ _ _ (.cond _ _ _) _; first | refine gc_yes (h1 := ?_) | refine gc_no (h1 := ?_))))
    have : j = 401 := by omega
    subst this
    refine gk_ret rfl fun H' hH => ?_
    unfold OwnI
    simp only [tiesOf, if_pos h]
    exact hH.give .head

/-- runs of a row that rises -/
theorem cntV_run {S : List Int} {v : Int} {s e : Nat} (hse : s ≤ e) (he : e ≤ S.length) (h1 : ∀ j, j < s → nth S j ≠ v) (h2 : ∀ j, s ≤ j → j < e → nth S j = v) (h3 : ∀ j, e ≤ j → j < S.length → nth S j ≠ v) : cntV S v = e - s := by
  have key : ∀ i, i ≤ S.length → cnt (fun x => decide (x = v)) S i = min i e - min i s := by
    intro i
    induction i with
    | zero => intro _; simp [cnt]
    | succ i ih =>
      intro hi
      rw [cnt_succ _ (by omega), ih (by omega)]
      by_cases a1 : i < s
      · have := h1 i a1
        simp [this]; omega
      · by_cases a2 : i < e
        · have := h2 i (by omega) a2
          simp [this]; omega
        · have := h3 i (by omega) (by omega)
          simp [this]; omega
  have := key S.length (Nat.le_refl _)
  rw [cnt_all] at this
  unfold cntV
  omega

theorem cntV_sort (xs : List Int) (v : Int) : cntV (sortL xs) v = cntV xs v := (sortL_perm xs).countP_eq _

theorem tieTo_congr {xs ys : List Int} (h : ∀ v, cntV xs v = cntV ys v) : ∀ j, tieTo xs j = tieTo ys j
  | 0 => rfl
  | j + 1 => by rw [tieTo, tieTo, h, tieTo_congr h j]

theorem tieTo_skip {xs : List Int} {j : Nat} : ∀ k, (∀ i, j ≤ i → i < j + k → cntV xs ((i : Int) - 200) = 0) → tieTo xs (j + k) = tieTo xs j
  | 0, _ => rfl
  | k + 1, h => by
    rw [← Nat.add_assoc, tieTo, if_neg (by rw [h (j + k) (by omega) (by omega)]; omega)]
    exact tieTo_skip k (fun i h1 h2 => h i h1 (by omega))

theorem cntV_zero {S : List Int} {v : Int} (h : ∀ j, j < S.length → nth S j ≠ v) : cntV S v = 0 := by
  have := cntV_run (S := S) (v := v) (s := S.length) (e := S.length) (Nat.le_refl _) (Nat.le_refl _) h (by omega) (by omega)
  omega

def posT (S : List Int) (s : Nat) : Nat := if s < S.length then (nth S s + 200).toNat else 401

structure GT where
  s : Nat
  v : AV

theorem ties_step {xs : List Int} (hd : Data xs) {s e : Nat} (hs : s < e) (he : e ≤ xs.length) (hb : ∀ j, j < s → nth (sortL xs) j < nth (sortL xs) s) (hr : ∀ j, s ≤ j → j < e → nth (sortL xs) j = nth (sortL xs) s) (hn : e < xs.length → nth (sortL xs) e ≠ nth (sortL xs) s) :
    tieTo xs (posT (sortL xs) e) = (if 1 < e - s then tieTo xs (posT (sortL xs) s) ++ [((e - s : Nat) : Int)] else tieTo xs (posT (sortL xs) s)) ∧ (e < xs.length → ∀ j, j < e → nth (sortL xs) j < nth (sortL xs) e) := by
  have hl := sortL_length xs
  have hu := sortL_up xs
  have hbd := sortL_bd hd
  have v1 := hbd.nth (by omega) s
  have hnext : e < xs.length → nth (sortL xs) s < nth (sortL xs) e := by
    intro h
    have h1 := hn h
    have h2 := hu.le (i := s) (j := e) (by omega) (by rw [hl]; exact h)
    omega
  have hafter : ∀ j, e ≤ j → j < (sortL xs).length → nth (sortL xs) s < nth (sortL xs) j := by
    intro j h1 h2
    have h3 := hnext (by omega)
    have h4 := hu.le (i := e) (j := j) h1 h2
    omega
  have hc : cntV xs (nth (sortL xs) s) = e - s := by
    rw [← cntV_sort]
    exact cntV_run (by omega) (by rw [hl]; exact he) (fun j h => by have := hb j h; omega) hr (fun j h1 h2 => by have := hafter j h1 h2; omega)
  have hp : posT (sortL xs) s = (nth (sortL xs) s + 200).toNat := by unfold posT; rw [if_pos (by rw [hl]; omega)]
  refine ⟨?_, fun h j hj => ?_⟩
  · have e1 : tieTo xs (posT (sortL xs) e) = tieTo xs (posT (sortL xs) s + 1) := by
      have hle : posT (sortL xs) s + 1 ≤ posT (sortL xs) e := by
        rw [hp]; unfold posT
        split
        · rename_i h1
          have := hafter e (Nat.le_refl _) h1
          omega
        · omega
      obtain ⟨k, hk⟩ : ∃ k, posT (sortL xs) e = posT (sortL xs) s + 1 + k := ⟨posT (sortL xs) e - (posT (sortL xs) s + 1), by omega⟩
      rw [hk]
      refine tieTo_skip k fun i h1 h2 => ?_
      rw [← cntV_sort]
      refine cntV_zero fun j h3 h4 => ?_
      rw [hp] at h1
      by_cases a1 : j < e
      · have : nth (sortL xs) j ≤ nth (sortL xs) s := by
          by_cases a2 : j < s
          · have := hb j a2; omega
          · have := hr j (by omega) a1; omega
        omega
      · have h5 := hu.le (i := e) (j := j) (by omega) h3
        have h6 : posT (sortL xs) e = (nth (sortL xs) e + 200).toNat := by unfold posT; rw [if_pos (by omega)]
        have h7 := hbd.nth (by omega) e
        omega
    have e2 : ((posT (sortL xs) s : Nat) : Int) - 200 = nth (sortL xs) s := by rw [hp]; omega
    rw [e1, tieTo, e2, hc]
  · have h1 := hnext h
    by_cases a2 : j < s
    · have := hb j a2; omega
    · have := hr j (by omega) hj; omega

theorem ties_start {xs : List Int} (hd : Data xs) : tieTo xs (posT (sortL xs) 0) = [] := by
  have hl := sortL_length xs
  have hu := sortL_up xs
  have := tieTo_skip (xs := xs) (j := 0) (posT (sortL xs) 0) (fun i h1 h2 => by
    rw [← cntV_sort]
    refine cntV_zero fun j h3 h4 => ?_
    have h5 := hu.le (i := 0) (j := j) (Nat.zero_le _) h3
    have h6 : posT (sortL xs) 0 = (nth (sortL xs) 0 + 200).toNat := by unfold posT; rw [if_pos (by omega)]
    omega)
  rw [Nat.zero_add] at this
  rw [this]; rfl

theorem implTiesOf_ok {H : Heap} {a : AV} {xs : List Int} (ha : Ints H a xs) (hl : xs.length ≤ 1000000000) :
    ACalls Try.prog fn_impl_TiesOf [a] H fun r H' => OwnI H H' r (tiesOf xs) ∧ Le H H' := by
  refine code_impl_TiesOf.go [.roI a xs.length xs] ⟨⟨rfl, ha⟩, trivial⟩ (by simp) ?_
  unfold mc_impl_TiesOf
  (repeat (first | with_reducible (first | refine go_nil ?_ | refine gk_seq ?_ | refine gc_seq ?_ | refine gc_reg ?_ | refine gc_skip ?_ | refine gk_block ?_ | refine gc_block ?_ | refine gc_exit ?_ | refine gc_ret ?_ | refine gk_seqret ?_ | refine gk_seqexit ?_ | refine gk_blockret ?_ | refine gk_out ?_ | refine gk_loopret ?_ | refine gk_loopexit ?_ | refine gq_nil ?_) | (with_reducible refine gc_drq ?_; intro _) | (show GO _ _ _ _ _ (⟨some _, none, .call _ _⟩ :: _) _; first | (show GO _ _ _ _ _ (⟨some _, none, .call fn_impl_ValidData _⟩ :: _) _; refine go_implValid (hk := ?_); try intro u) | (show GO _ _ _ _ _ (⟨some _, none, .call fn_impl_sortedCopy _⟩ :: _) _; refine go_calln rfl code_impl_sortedCopy.callable (fun H hH => sortedCopy_ok (hH.ints (by exact Has.auto)) (by omega)) ?_; intro u) | (show GO _ _ _ _ _ (⟨some _, none, .call fn_impl_sortedCopy _⟩ :: _) _; refine go_calln rfl code_impl_sortedCopy.callable (fun H hH => sortedCopyB_ok (hH.ints (by exact Has.auto)) (by omega)) ?_; intro u)) | (show GO _ _ _ _ _ (⟨some _, none, _⟩ :: _) _; first | refine go_op (hk := ?_) | (refine go_nw (hk := ?_); intro u; try simp only [List.length_cons, List.length_nil, List.nil_append, Nat.zero_add]) | (refine go_np (hk := ?_); intro id)) | (show GQ _ _ _ _ _ _ _ (⟨some _, none, _⟩ :: _) _; first | refine gq_op (hk := ?_) | (refine gq_nw (hk := ?_); intro u; try simp only [List.length_cons, List.length_nil, List.nil_append, Nat.zero_add])) | (show GO _ _ _ _ _ (⟨none, none, _⟩ :: _) _; refine go_st (hk := ?_)) | (show GO _ _ _ _ _ (⟨_, some _, _⟩ :: _) _; first | refine go_in (hk := ?_) | refine go_out (hk := ?_) | refine go_void (hk := ?_)) | (show GQ _ _ _ _ _ _ _ (⟨_, some _, _⟩ :: _) _; first | refine gq_in (hk := ?_) | refine gq_out (hk := ?_) | refine gq_void (hk := ?_)) | (show GK _ _ _ _ (blockK _ _ _); refine gk_past rfl ?_) | (show GC _ _ _ _ _ (.cond _ _ _) _; first | refine gc_yes (h1 := ?_) | refine gc_no (h1 := ?_))))
  refine gc_cond rfl (fun h => ?_) (fun h => ?_)
  · (repeat (first | with_reducible (first | refine go_nil ?_ | refine gk_seq ?_ | refine gc_seq ?_ | refine gc_reg ?_ | refine gc_skip ?_ | refine gk_block ?_ | refine gc_block ?_ | refine gc_exit ?_ | refine gc_ret ?_ | refine gk_seqret ?_ | refine gk_seqexit ?_ | refine gk_blockret ?_ | refine gk_out ?_ | refine gk_loopret ?_ | refine gk_loopexit ?_ | refine gq_nil ?_) | (with_reducible refine gc_drq ?_; intro _) | (show GO _ _ _ _ _ (⟨some _, none, .call _ _⟩ :: _) _; first | (show GO _ _ _ _ _ (⟨some _, none, .call fn_impl_ValidData _⟩ :: _) _; refine go_implValid (hk := ?_); try intro u) | (show GO _ _ _ _ _ (⟨some _, none, .call fn_impl_sortedCopy _⟩ :: _) _; refine go_calln rfl code_impl_sortedCopy.callable (fun H hH => sortedCopy_ok (hH.ints (by exact Has.auto)) (by omega)) ?_; intro u) | (show GO _ _ _ _ _ (⟨some _, none, .call fn_impl_sortedCopy _⟩ :: _) _; refine go_calln rfl code_impl_sortedCopy.callable (fun H hH => sortedCopyB_ok (hH.ints (by exact Has.auto)) (by omega)) ?_; intro u)) | (show GO _ _ _ _ _ (⟨some _, none, _⟩ :: _) _; first | refine go_op (hk := ?_) | (refine go_nw (hk := ?_); intro u; try simp only [List.length_cons, List.length_nil, List.nil_append, Nat.zero_add]) | (refine go_np (hk := ?_); intro id)) | (show GQ _ _ _ _ _ _ _ (⟨some _, none, _⟩ :: _) _; first | refine gq_op (hk := ?_) | (refine gq_nw (hk := ?_); intro u; try simp only [List.length_cons, List.length_nil, List.nil_append, Nat.zero_add])) | (show GO _ _ _ _ _ (⟨none, none, _⟩ :: _) _; refine go_st (hk := ?_)) | (show GO _ _ _ _ _ (⟨_, some _, _⟩ :: _) _; first | refine go_in (hk := ?_) | refine go_out (hk := ?_) | refine go_void (hk := ?_)) | (show GQ _ _ _ _ _ _ _ (⟨_, some _, _⟩ :: _) _; first | refine gq_in (hk := ?_) | refine gq_out (hk := ?_) | refine gq_void (hk := ?_)) | (show GK _ _ _ _ (blockK _ _ _); refine gk_past rfl ?_) | (show GC _ _ _ _ _ (.cond _ _ _) _; first | refine gc_yes (h1 := ?_) | refine gc_no (h1 := ?_))))
    refine gk_ret rfl fun H' hH => ⟨?_, hH.leE⟩
    simp only [tiesOf, if_neg h]
    exact Own.nil _ _ _
  have h : Data xs := Decidable.not_not.1 h
  have hx := h.1
  have hsl := sortL_length xs
  (repeat (first | with_reducible (first | refine go_nil ?_ | refine gk_seq ?_ | refine gc_seq ?_ | refine gc_reg ?_ | refine gc_skip ?_ | refine gk_block ?_ | refine gc_block ?_ | refine gc_exit ?_ | refine gc_ret ?_ | refine gk_seqret ?_ | refine gk_seqexit ?_ | refine gk_blockret ?_ | refine gk_out ?_ | refine gk_loopret ?_ | refine gk_loopexit ?_ | refine gq_nil ?_) | (with_reducible refine gc_drq ?_; intro _) | (show GO _ _ _ _ _ (⟨some _, none, .call _ _⟩ :: _) _; first | (show GO _ _ _ _ _ (⟨some _, none, .call fn_impl_ValidData _⟩ :: _) _; refine go_implValid (hk := ?_); try intro u) | (show GO _ _ _ _ _ (⟨some _, none, .call fn_impl_sortedCopy _⟩ :: _) _; refine go_calln rfl code_impl_sortedCopy.callable (fun H hH => sortedCopy_ok (hH.ints (by exact Has.auto)) (by omega)) ?_; intro u) | (show GO _ _ _ _ _ (⟨some _, none, .call fn_impl_sortedCopy _⟩ :: _) _; refine go_calln rfl code_impl_sortedCopy.callable (fun H hH => sortedCopyB_ok (hH.ints (by exact Has.auto)) (by omega)) ?_; intro u)) | (show GO _ _ _ _ _ (⟨some _, none, _⟩ :: _) _; first | refine go_op (hk := ?_) | (refine go_nw (hk := ?_); intro u; try simp only [List.length_cons, List.length_nil, List.nil_append, Nat.zero_add]) | (refine go_np (hk := ?_); intro id)) | (show GQ _ _ _ _ _ _ _ (⟨some _, none, _⟩ :: _) _; first | refine gq_op (hk := ?_) | (refine gq_nw (hk := ?_); intro u; try simp only [List.length_cons, List.length_nil, List.nil_append, Nat.zero_add])) | (show GO _ _ _ _ _ (⟨none, none, _⟩ :: _) _; refine go_st (hk := ?_)) | (show GO _ _ _ _ _ (⟨_, some _, _⟩ :: _) _; first | refine go_in (hk := ?_) | refine go_out (hk := ?_) | refine go_void (hk := ?_)) | (show GQ _ _ _ _ _ _ _ (⟨_, some _, _⟩ :: _) _; first | refine gq_in (hk := ?_) | refine gq_out (hk := ?_) | refine gq_void (hk := ?_)) | (show GK _ _ _ _ (blockK _ _ _); refine gk_past rfl ?_) | (show GC _ _ _ _ _ (.cond _ _ _) _; first | refine gc_yes (h1 := ?_) | refine gc_no (h1 := ?_))))
  refine gc_nil ?_
  refine gc_loop (γ := GT) (fun g => [(3, u), (4, g.v), (5, .int .i64 (g.s : Int))]) (fun g => [.rwI g.v (tieTo xs (posT (sortL xs) g.s)).length (tieTo xs (posT (sortL xs) g.s)), .rwI u (sortL xs).length (sortL xs)]) (fun g => g.s ≤ xs.length ∧ (g.s < xs.length → ∀ j, j < g.s → nth (sortL xs) j < nth (sortL xs) g.s)) (fun g => xs.length - g.s) ⟨0, .nilSlice⟩ ⟨Nat.zero_le _, by simp⟩ (hS := by simp only [ties_start h]; exact .cons .head (.cons .head .nil)) (hb := ?_)
  rintro ⟨s, v⟩ ⟨hs, hb⟩ I ν m hn
  simp only at hs hb hn ⊢
  have hp : posT (sortL xs) s ≤ 401 := by
    unfold posT; split
    · have := (sortL_bd h).nth (by omega) s; omega
    · omega
  have htl := tieTo_le xs (posT (sortL xs) s)
  (repeat (first | with_reducible (first | refine go_nil ?_ | refine gk_seq ?_ | refine gc_seq ?_ | refine gc_reg ?_ | refine gc_skip ?_ | refine gk_block ?_ | refine gc_block ?_ | refine gc_exit ?_ | refine gc_ret ?_ | refine gk_seqret ?_ | refine gk_seqexit ?_ | refine gk_blockret ?_ | refine gk_out ?_ | refine gk_loopret ?_ | refine gk_loopexit ?_ | refine gq_nil ?_) | (with_reducible refine gc_drq ?_; intro _) | (show GO _ _ _ _ _ (⟨some _, none, .call _ _⟩ :: _) _; first | (show GO _ _ _ _ _ (⟨some _, none, .call fn_impl_ValidData _⟩ :: _) _; refine go_implValid (hk := ?_); try intro u) | (show GO _ _ _ _ _ (⟨some _, none, .call fn_impl_sortedCopy _⟩ :: _) _; refine go_calln rfl code_impl_sortedCopy.callable (fun H hH => sortedCopy_ok (hH.ints (by exact Has.auto)) (by omega)) ?_; intro u) | (show GO _ _ _ _ _ (⟨some _, none, .call fn_impl_sortedCopy _⟩ :: _) _; refine go_calln rfl code_impl_sortedCopy.callable (fun H hH => sortedCopyB_ok (hH.ints (by exact Has.auto)) (by omega)) ?_; intro u)) | (show GO _ _ _ _ _ (⟨some _, none, _⟩ :: _) _; first | refine go_op (hk := ?_) | (refine go_nw (hk := ?_); intro u; try simp only [List.length_cons, List.length_nil, List.nil_append, Nat.zero_add]) | (refine go_np (hk := ?_); intro id)) | (show GQ _ _ _ _ _ _ _ (⟨some _, none, _⟩ :: _) _; first | refine gq_op (hk := ?_) | (refine gq_nw (hk := ?_); intro u; try simp only [List.length_cons, List.length_nil, List.nil_append, Nat.zero_add])) | (show GO _ _ _ _ _ (⟨none, none, _⟩ :: _) _; refine go_st (hk := ?_)) | (show GO _ _ _ _ _ (⟨_, some _, _⟩ :: _) _; first | refine go_in (hk := ?_) | refine go_out (hk := ?_) | refine go_void (hk := ?_)) | (show GQ _ _ _ _ _ _ _ (⟨_, some _, _⟩ :: _) _; first | refine gq_in (hk := ?_) | refine gq_out (hk := ?_) | refine gq_void (hk := ?_)) | (show GK _ _ _ _ (blockK _ _ _); refine gk_past rfl ?_) | (show GC _ _ _ _ _ (.cond _ _ _) _; first | refine gc_yes (h1 := ?_) | refine gc_no (h1 := ?_))))
  refine gc_cond rfl (fun h1 => ?_) (fun h1 => ?_)
  · have hs' : s < xs.length := by omega
    have hb := hb hs'
    (repeat (first | with_reducible (first | refine go_nil ?_ | refine gk_seq ?_ | refine gc_seq ?_ | refine gc_reg ?_ | refine gc_skip ?_ | refine gk_block ?_ | refine gc_block ?_ | refine gc_exit ?_ | refine gc_ret ?_ | refine gk_seqret ?_ | refine gk_seqexit ?_ | refine gk_blockret ?_ | refine gk_out ?_ | refine gk_loopret ?_ | refine gk_loopexit ?_ | refine gq_nil ?_) | (with_reducible refine gc_drq ?_; intro _) | (show GO _ _ _ _ _ (⟨some _, none, .call _ _⟩ :: _) _; first | (show GO _ _ _ _ _ (⟨some _, none, .call fn_impl_ValidData _⟩ :: _) _; refine go_implValid (hk := ?_); try intro u) | (show GO _ _ _ _ _ (⟨some _, none, .call fn_impl_sortedCopy _⟩ :: _) _; refine go_calln rfl code_impl_sortedCopy.callable (fun H hH => sortedCopy_ok (hH.ints (by exact Has.auto)) (by omega)) ?_; intro u) | (show GO _ _ _ _ _ (⟨some _, none, .call fn_impl_sortedCopy _⟩ :: _) _; refine go_calln rfl code_impl_sortedCopy.callable (fun H hH => sortedCopyB_ok (hH.ints (by exact Has.auto)) (by omega)) ?_; intro u)) | (show GO _ _ _ _ _ (⟨some _, none, _⟩ :: _) _; first | refine go_op (hk := ?_) | (refine go_nw (hk := ?_); intro u; try simp only [List.length_cons, List.length_nil, List.nil_append, Nat.zero_add]) | (refine go_np (hk := ?_); intro id)) | (show GQ _ _ _ _ _ _ _ (⟨some _, none, _⟩ :: _) _; first | refine gq_op (hk := ?_) | (refine gq_nw (hk := ?_); intro u; try simp only [List.length_cons, List.length_nil, List.nil_append, Nat.zero_add])) | (show GO _ _ _ _ _ (⟨none, none, _⟩ :: _) _; refine go_st (hk := ?_)) | (show GO _ _ _ _ _ (⟨_, some _, _⟩ :: _) _; first | refine go_in (hk := ?_) | refine go_out (hk := ?_) | refine go_void (hk := ?_)) | (show GQ _ _ _ _ _ _ _ (⟨_, some _, _⟩ :: _) _; first | refine gq_in (hk := ?_) | refine gq_out (hk := ?_) | refine gq_void (hk := ?_)) | (show GK _ _ _ _ (blockK _ _ _); refine gk_past rfl ?_) | (show GC _ _ _ _ _ (.cond _ _ _) _; first | refine gc_yes (h1 := ?_) | refine gc_no (h1 := ?_))))
    refine gc_loop (fun e : Nat => [(3, u), (4, v), (5, .int .i64 (s : Int)), (6, .int .i64 (e : Int))]) (fun _ => [.rwI v (tieTo xs (posT (sortL xs) s)).length (tieTo xs (posT (sortL xs) s)), .rwI u (sortL xs).length (sortL xs)]) (fun e => s < e ∧ e ≤ xs.length ∧ ∀ j, s ≤ j → j < e → nth (sortL xs) j = nth (sortL xs) s) (fun e => xs.length - e) (s + 1) ⟨by omega, by omega, fun j h2 h3 => congrArg (nth (sortL xs)) (by omega : j = s)⟩ (hb := ?_)
    rintro e ⟨h2, h3, h4⟩ I' ν' m' hn'
    (repeat (first | with_reducible (first | refine go_nil ?_ | refine gk_seq ?_ | refine gc_seq ?_ | refine gc_reg ?_ | refine gc_skip ?_ | refine gk_block ?_ | refine gc_block ?_ | refine gc_exit ?_ | refine gc_ret ?_ | refine gk_seqret ?_ | refine gk_seqexit ?_ | refine gk_blockret ?_ | refine gk_out ?_ | refine gk_loopret ?_ | refine gk_loopexit ?_ | refine gq_nil ?_) | (with_reducible refine gc_drq ?_; intro _) | (show GO _ _ _ _ _ (⟨some _, none, .call _ _⟩ :: _) _; first | (show GO _ _ _ _ _ (⟨some _, none, .call fn_impl_ValidData _⟩ :: _) _; refine go_implValid (hk := ?_); try intro u) | (show GO _ _ _ _ _ (⟨some _, none, .call fn_impl_sortedCopy _⟩ :: _) _; refine go_calln rfl code_impl_sortedCopy.callable (fun H hH => sortedCopy_ok (hH.ints (by exact Has.auto)) (by omega)) ?_; intro u) | (show GO _ _ _ _ _ (⟨some _, none, .call fn_impl_sortedCopy _⟩ :: _) _; refine go_calln rfl code_impl_sortedCopy.callable (fun H hH => sortedCopyB_ok (hH.ints (by exact Has.auto)) (by omega)) ?_; intro u)) | (show GO _ _ _ _ _ (⟨some _, none, _⟩ :: _) _; first | refine go_op (hk := ?_) | (refine go_nw (hk := ?_); intro u; try simp only [List.length_cons, List.length_nil, List.nil_append, Nat.zero_add]) | (refine go_np (hk := ?_); intro id)) | (show GQ _ _ _ _ _ _ _ (⟨some _, none, _⟩ :: _) _; first | refine gq_op (hk := ?_) | (refine gq_nw (hk := ?_); intro u; try simp only [List.length_cons, List.length_nil, List.nil_append, Nat.zero_add])) | (show GO _ _ _ _ _ (⟨none, none, _⟩ :: _) _; refine go_st (hk := ?_)) | (show GO _ _ _ _ _ (⟨_, some _, _⟩ :: _) _; first | refine go_in (hk := ?_) | refine go_out (hk := ?_) | refine go_void (hk := ?_)) | (show GQ _ _ _ _ _ _ _ (⟨_, some _, _⟩ :: _) _; first | refine gq_in (hk := ?_) | refine gq_out (hk := ?_) | refine gq_void (hk := ?_)) | (show GK _ _ _ _ (blockK _ _ _); refine gk_past rfl ?_) | (show GC _ _ _ _ _ (.cond _ _ _) _; first | refine gc_yes (h1 := ?_) | refine gc_no (h1 := ?_))))
    refine gq_split 22 rfl (fun h5 => ?_) (fun h5 => ?_)
    · (repeat (first | with_reducible (first | refine go_nil ?_ | refine gk_seq ?_ | refine gc_seq ?_ | refine gc_reg ?_ | refine gc_skip ?_ | refine gk_block ?_ | refine gc_block ?_ | refine gc_exit ?_ | refine gc_ret ?_ | refine gk_seqret ?_ | refine gk_seqexit ?_ | refine gk_blockret ?_ | refine gk_out ?_ | refine gk_loopret ?_ | refine gk_loopexit ?_ | refine gq_nil ?_) | (with_reducible refine gc_drq ?_; intro _) | (show GO _ _ _ _ _ (⟨some _, none, .call _ _⟩ :: _) _; first | (show GO _ _ _ _ _ (⟨some _, none, .call fn_impl_ValidData _⟩ :: _) _; refine go_implValid (hk := ?_); try intro u) | (show GO _ _ _ _ _ (⟨some _, none, .call fn_impl_sortedCopy _⟩ :: _) _; refine go_calln rfl code_impl_sortedCopy.callable (fun H hH => sortedCopy_ok (hH.ints (by exact Has.auto)) (by omega)) ?_; intro u) | (show GO _ _ _ _ _ (⟨some _, none, .call fn_impl_sortedCopy _⟩ :: _) _; refine go_calln rfl code_impl_sortedCopy.callable (fun H hH => sortedCopyB_ok (hH.ints (by exact Has.auto)) (by omega)) ?_; intro u)) | (show GO _ _ _ _ _ (⟨some _, none, _⟩ :: _) _; first | refine go_op (hk := ?_) | (refine go_nw (hk := ?_); intro u; try simp only [List.length_cons, List.length_nil, List.nil_append, Nat.zero_add]) | (refine go_np (hk := ?_); intro id)) | (show GQ _ _ _ _ _ _ _ (⟨some _, none, _⟩ :: _) _; first | refine gq_op (hk := ?_) | (refine gq_nw (hk := ?_); intro u; try simp only [List.length_cons, List.length_nil, List.nil_append, Nat.zero_add])) | (show GO _ _ _ _ _ (⟨none, none, _⟩ :: _) _; refine go_st (hk := ?_)) | (show GO _ _ _ _ _ (⟨_, some _, _⟩ :: _) _; first | refine go_in (hk := ?_) | refine go_out (hk := ?_) | refine go_void (hk := ?_)) | (show GQ _ _ _ _ _ _ _ (⟨_, some _, _⟩ :: _) _; first | refine gq_in (hk := ?_) | refine gq_out (hk := ?_) | refine gq_void (hk := ?_)) | (show GK _ _ _ _ (blockK _ _ _); refine gk_past rfl ?_) | (show GC _ _ _ _ _ (.cond _ _ _) _; first | refine gc_yes (h1 := ?_) | refine gc_no (h1 := ?_))))
      refine gc_cond rfl (fun h7 => ?_) (fun h7 => ?_)
      · (repeat (first | with_reducible (first | refine go_nil ?_ | refine gk_seq ?_ | refine gc_seq ?_ | refine gc_reg ?_ | refine gc_skip ?_ | refine gk_block ?_ | refine gc_block ?_ | refine gc_exit ?_ | refine gc_ret ?_ | refine gk_seqret ?_ | refine gk_seqexit ?_ | refine gk_blockret ?_ | refine gk_out ?_ | refine gk_loopret ?_ | refine gk_loopexit ?_ | refine gq_nil ?_) | (with_reducible refine gc_drq ?_; intro _) | (show GO _ _ _ _ _ (⟨some _, none, .call _ _⟩ :: _) _; first | (show GO _ _ _ _ _ (⟨some _, none, .call fn_impl_ValidData _⟩ :: _) _; refine go_implValid (hk := ?_); try intro u) | (show GO _ _ _ _ _ (⟨some _, none, .call fn_impl_sortedCopy _⟩ :: _) _; refine go_calln rfl code_impl_sortedCopy.callable (fun H hH => sortedCopy_ok (hH.ints (by exact Has.auto)) (by omega)) ?_; intro u) | (show GO _ _ _ _ _ (⟨some _, none, .call fn_impl_sortedCopy _⟩ :: _) _; refine go_calln rfl code_impl_sortedCopy.callable (fun H hH => sortedCopyB_ok (hH.ints (by exact Has.auto)) (by omega)) ?_; intro u)) | (show GO _ _ _ _ _ (⟨some _, none, _⟩ :: _) _; first | refine go_op (hk := ?_) | (refine go_nw (hk := ?_); intro u; try simp only [List.length_cons, List.length_nil, List.nil_append, Nat.zero_add]) | (refine go_np (hk := ?_); intro id)) | (show GQ _ _ _ _ _ _ _ (⟨some _, none, _⟩ :: _) _; first | refine gq_op (hk := ?_) | (refine gq_nw (hk := ?_); intro u; try simp only [List.length_cons, List.length_nil, List.nil_append, Nat.zero_add])) | (show GO _ _ _ _ _ (⟨none, none, _⟩ :: _) _; refine go_st (hk := ?_)) | (show GO _ _ _ _ _ (⟨_, some _, _⟩ :: _) _; first | refine go_in (hk := ?_) | refine go_out (hk := ?_) | refine go_void (hk := ?_)) | (show GQ _ _ _ _ _ _ _ (⟨_, some _, _⟩ :: _) _; first | refine gq_in (hk := ?_) | refine gq_out (hk := ?_) | refine gq_void (hk := ?_)) | (show GK _ _ _ _ (blockK _ _ _); refine gk_past rfl ?_) | (show GC _ _ _ _ _ (.cond _ _ _) _; first | refine gc_yes (h1 := ?_) | refine gc_no (h1 := ?_))))
        refine gk_next (hn' (e + 1) ⟨by omega, by omega, fun j a1 a2 => ?_⟩ (by omega))
        by_cases a3 : j = e
        · rw [a3]; exact h7
        · exact h4 j a1 (by omega)
      · have st := ties_step h h2 h3 hb h4 (fun _ => h7)
        (repeat (first | with_reducible (first | refine go_nil ?_ | refine gk_seq ?_ | refine gc_seq ?_ | refine gc_reg ?_ | refine gc_skip ?_ | refine gk_block ?_ | refine gc_block ?_ | refine gc_exit ?_ | refine gc_ret ?_ | refine gk_seqret ?_ | refine gk_seqexit ?_ | refine gk_blockret ?_ | refine gk_out ?_ | refine gk_loopret ?_ | refine gk_loopexit ?_ | refine gq_nil ?_) | (with_reducible refine gc_drq ?_; intro _) | (show GO _ _ _ _ _ (⟨some _, none, .call _ _⟩ :: _) _; first | (show GO _ _ _ _ _ (⟨some _, none, .call fn_impl_ValidData _⟩ :: _) _; refine go_implValid (hk := ?_); try intro u) | (show GO _ _ _ _ _ (⟨some _, none, .call fn_impl_sortedCopy _⟩ :: _) _; refine go_calln rfl code_impl_sortedCopy.callable (fun H hH => sortedCopy_ok (hH.ints (by exact Has.auto)) (by omega)) ?_; intro u) | (show GO _ _ _ _ _ (⟨some _, none, .call fn_impl_sortedCopy _⟩ :: _) _; refine go_calln rfl code_impl_sortedCopy.callable (fun H hH => sortedCopyB_ok (hH.ints (by exact Has.auto)) (by omega)) ?_; intro u)) | (show GO _ _ _ _ _ (⟨some _, none, _⟩ :: _) _; first | refine go_op (hk := ?_) | (refine go_nw (hk := ?_); intro u; try simp only [List.length_cons, List.length_nil, List.nil_append, Nat.zero_add]) | (refine go_np (hk := ?_); intro id)) | (show GQ _ _ _ _ _ _ _ (⟨some _, none, _⟩ :: _) _; first | refine gq_op (hk := ?_) | (refine gq_nw (hk := ?_); intro u; try simp only [List.length_cons, List.length_nil, List.nil_append, Nat.zero_add])) | (show GO _ _ _ _ _ (⟨none, none, _⟩ :: _) _; refine go_st (hk := ?_)) | (show GO _ _ _ _ _ (⟨_, some _, _⟩ :: _) _; first | refine go_in (hk := ?_) | refine go_out (hk := ?_) | refine go_void (hk := ?_)) | (show GQ _ _ _ _ _ _ _ (⟨_, some _, _⟩ :: _) _; first | refine gq_in (hk := ?_) | refine gq_out (hk := ?_) | refine gq_void (hk := ?_)) | (show GK _ _ _ _ (blockK _ _ _); refine gk_past rfl ?_) | (show GC _ _ _ _ _ (.cond _ _ _) _; first | refine gc_yes (h1 := ?_) | refine gc_no (h1 := ?_))))
        refine gc_cond rfl (fun h6 => ?_) (fun h6 => ?_)
        · have hk := fun v' => hn ⟨e, v'⟩ ⟨h3, st.2⟩ (by simp only; omega)
          simp only [st.1, if_pos (by omega : 1 < e - s), List.length_append, List.length_cons, List.length_nil, Nat.zero_add] at hk
          (repeat (first | with_reducible (first | refine go_nil ?_ | refine gk_seq ?_ | refine gc_seq ?_ | refine gc_reg ?_ | refine gc_skip ?_ | refine gk_block ?_ | refine gc_block ?_ | refine gc_exit ?_ | refine gc_ret ?_ | refine gk_seqret ?_ | refine gk_seqexit ?_ | refine gk_blockret ?_ | refine gk_out ?_ | refine gk_loopret ?_ | refine gk_loopexit ?_ | refine gq_nil ?_) | (with_reducible refine gc_drq ?_; intro _) | (show GO _ _ _ _ _ (⟨some _, none, .call _ _⟩ :: _) _; first | (show GO _ _ _ _ _ (⟨some _, none, .call fn_impl_ValidData _⟩ :: _) _; refine go_implValid (hk := ?_); try intro u) | (show GO _ _ _ _ _ (⟨some _, none, .call fn_impl_sortedCopy _⟩ :: _) _; refine go_calln rfl code_impl_sortedCopy.callable (fun H hH => sortedCopy_ok (hH.ints (by exact Has.auto)) (by omega)) ?_; intro u) | (show GO _ _ _ _ _ (⟨some _, none, .call fn_impl_sortedCopy _⟩ :: _) _; refine go_calln rfl code_impl_sortedCopy.callable (fun H hH => sortedCopyB_ok (hH.ints (by exact Has.auto)) (by omega)) ?_; intro u)) | (show GO _ _ _ _ _ (⟨some _, none, _⟩ :: _) _; first | refine go_op (hk := ?_) | (refine go_nw (hk := ?_); intro u; try simp only [List.length_cons, List.length_nil, List.nil_append, Nat.zero_add]) | (refine go_np (hk := ?_); intro id)) | (show GQ _ _ _ _ _ _ _ (⟨some _, none, _⟩ :: _) _; first | refine gq_op (hk := ?_) | (refine gq_nw (hk := ?_); intro u; try simp only [List.length_cons, List.length_nil, List.nil_append, Nat.zero_add])) | (show GO _ _ _ _ _ (⟨none, none, _⟩ :: _) _; refine go_st (hk := ?_)) | (show GO _ _ _ _ _ (⟨_, some _, _⟩ :: _) _; first | refine go_in (hk := ?_) | refine go_out (hk := ?_) | refine go_void (hk := ?_)) | (show GQ _ _ _ _ _ _ _ (⟨_, some _, _⟩ :: _) _; first | refine gq_in (hk := ?_) | refine gq_out (hk := ?_) | refine gq_void (hk := ?_)) | (show GK _ _ _ _ (blockK _ _ _); refine gk_past rfl ?_) | (show GC _ _ _ _ _ (.cond _ _ _) _; first | refine gc_yes (h1 := ?_) | refine gc_no (h1 := ?_))))
          exact gk_next (hk u)
        · have hk := hn ⟨e, v⟩ ⟨h3, st.2⟩ (by simp only; omega)
          simp only [st.1, if_neg (by omega : ¬ 1 < e - s)] at hk
          (repeat (first | with_reducible (first | refine go_nil ?_ | refine gk_seq ?_ | refine gc_seq ?_ | refine gc_reg ?_ | refine gc_skip ?_ | refine gk_block ?_ | refine gc_block ?_ | refine gc_exit ?_ | refine gc_ret ?_ | refine gk_seqret ?_ | refine gk_seqexit ?_ | refine gk_blockret ?_ | refine gk_out ?_ | refine gk_loopret ?_ | refine gk_loopexit ?_ | refine gq_nil ?_) | (with_reducible refine gc_drq ?_; intro _) | (show GO _ _ _ _ _ (⟨some _, none, .call _ _⟩ :: _) _; first | (show GO _ _ _ _ _ (⟨some _, none, .call fn_impl_ValidData _⟩ :: _) _; refine go_implValid (hk := ?_); try intro u) | (show GO _ _ _ _ _ (⟨some _, none, .call fn_impl_sortedCopy _⟩ :: _) _; refine go_calln rfl code_impl_sortedCopy.callable (fun H hH => sortedCopy_ok (hH.ints (by exact Has.auto)) (by omega)) ?_; intro u) | (show GO _ _ _ _ _ (⟨some _, none, .call fn_impl_sortedCopy _⟩ :: _) _; refine go_calln rfl code_impl_sortedCopy.callable (fun H hH => sortedCopyB_ok (hH.ints (by exact Has.auto)) (by omega)) ?_; intro u)) | (show GO _ _ _ _ _ (⟨some _, none, _⟩ :: _) _; first | refine go_op (hk := ?_) | (refine go_nw (hk := ?_); intro u; try simp only [List.length_cons, List.length_nil, List.nil_append, Nat.zero_add]) | (refine go_np (hk := ?_); intro id)) | (show GQ _ _ _ _ _ _ _ (⟨some _, none, _⟩ :: _) _; first | refine gq_op (hk := ?_) | (refine gq_nw (hk := ?_); intro u; try simp only [List.length_cons, List.length_nil, List.nil_append, Nat.zero_add])) | (show GO _ _ _ _ _ (⟨none, none, _⟩ :: _) _; refine go_st (hk := ?_)) | (show GO _ _ _ _ _ (⟨_, some _, _⟩ :: _) _; first | refine go_in (hk := ?_) | refine go_out (hk := ?_) | refine go_void (hk := ?_)) | (show GQ _ _ _ _ _ _ _ (⟨_, some _, _⟩ :: _) _; first | refine gq_in (hk := ?_) | refine gq_out (hk := ?_) | refine gq_void (hk := ?_)) | (show GK _ _ _ _ (blockK _ _ _); refine gk_past rfl ?_) | (show GC _ _ _ _ _ (.cond _ _ _) _; first | refine gc_yes (h1 := ?_) | refine gc_no (h1 := ?_))))
          exact gk_next hk
    · have st := ties_step h h2 h3 hb h4 (fun a1 => by omega)
      (repeat (first | with_reducible (first | refine go_nil ?_ | refine gk_seq ?_ | refine gc_seq ?_ | refine gc_reg ?_ | refine gc_skip ?_ | refine gk_block ?_ | refine gc_block ?_ | refine gc_exit ?_ | refine gc_ret ?_ | refine gk_seqret ?_ | refine gk_seqexit ?_ | refine gk_blockret ?_ | refine gk_out ?_ | refine gk_loopret ?_ | refine gk_loopexit ?_ | refine gq_nil ?_) | (with_reducible refine gc_drq ?_; intro _) | (show GO _ _ _ _ _ (⟨some _, none, .call _ _⟩ :: _) _; first | (show GO _ _ _ _ _ (⟨some _, none, .call fn_impl_ValidData _⟩ :: _) _; refine go_implValid (hk := ?_); try intro u) | (show GO _ _ _ _ _ (⟨some _, none, .call fn_impl_sortedCopy _⟩ :: _) _; refine go_calln rfl code_impl_sortedCopy.callable (fun H hH => sortedCopy_ok (hH.ints (by exact Has.auto)) (by omega)) ?_; intro u) | (show GO _ _ _ _ _ (⟨some _, none, .call fn_impl_sortedCopy _⟩ :: _) _; refine go_calln rfl code_impl_sortedCopy.callable (fun H hH => sortedCopyB_ok (hH.ints (by exact Has.auto)) (by omega)) ?_; intro u)) | (show GO _ _ _ _ _ (⟨some _, none, _⟩ :: _) _; first | refine go_op (hk := ?_) | (refine go_nw (hk := ?_); intro u; try simp only [List.length_cons, List.length_nil, List.nil_append, Nat.zero_add]) | (refine go_np (hk := ?_); intro id)) | (show GQ _ _ _ _ _ _ _ (⟨some _, none, _⟩ :: _) _; first | refine gq_op (hk := ?_) | (refine gq_nw (hk := ?_); intro u; try simp only [List.length_cons, List.length_nil, List.nil_append, Nat.zero_add])) | (show GO _ _ _ _ _ (⟨none, none, _⟩ :: _) _; refine go_st (hk := ?_)) | (show GO _ _ _ _ _ (⟨_, some _, _⟩ :: _) _; first | refine go_in (hk := ?_) | refine go_out (hk := ?_) | refine go_void (hk := ?_)) | (show GQ _ _ _ _ _ _ _ (⟨_, some _, _⟩ :: _) _; first | refine gq_in (hk := ?_) | refine gq_out (hk := ?_) | refine gq_void (hk := ?_)) | (show GK _ _ _ _ (blockK _ _ _); refine gk_past rfl ?_) | (show GC _ _ _ _ _ (.cond _ _ _) _; first | refine gc_yes (h1 := ?_) | refine gc_no (h1 := ?_))))
      refine gc_cond rfl (fun h6 => ?_) (fun h6 => ?_)
      · have hk := fun v' => hn ⟨e, v'⟩ ⟨h3, st.2⟩ (by simp only; omega)
        simp only [st.1, if_pos (by omega : 1 < e - s), List.length_append, List.length_cons, List.length_nil, Nat.zero_add] at hk
        (repeat (first | with_reducible (first | refine go_nil ?_ | refine gk_seq ?_ | refine gc_seq ?_ | refine gc_reg ?_ | refine gc_skip ?_ | refine gk_block ?_ | refine gc_block ?_ | refine gc_exit ?_ | refine gc_ret ?_ | refine gk_seqret ?_ | refine gk_seqexit ?_ | refine gk_blockret ?_ | refine gk_out ?_ | refine gk_loopret ?_ | refine gk_loopexit ?_ | refine gq_nil ?_) | (with_reducible refine gc_drq ?_; intro _) | (show GO _ _ _ _ _ (⟨some _, none, .call _ _⟩ :: _) _; first | (show GO _ _ _ _ _ (⟨some _, none, .call fn_impl_ValidData _⟩ :: _) _; refine go_implValid (hk := ?_); try intro u) | (show GO _ _ _ _ _ (⟨some _, none, .call fn_impl_sortedCopy _⟩ :: _) _; refine go_calln rfl code_impl_sortedCopy.callable (fun H hH => sortedCopy_ok (hH.ints (by exact Has.auto)) (by omega)) ?_; intro u) | (show GO _ _ _ _ _ (⟨some _, none, .call fn_impl_sortedCopy _⟩ :: _) _; refine go_calln rfl code_impl_sortedCopy.callable (fun H hH => sortedCopyB_ok (hH.ints (by exact Has.auto)) (by omega)) ?_; intro u)) | (show GO _ _ _ _ _ (⟨some _, none, _⟩ :: _) _; first | refine go_op (hk := ?_) | (refine go_nw (hk := ?_); intro u; try simp only [List.length_cons, List.length_nil, List.nil_append, Nat.zero_add]) | (refine go_np (hk := ?_); intro id)) | (show GQ _ _ _ _ _ _ _ (⟨some _, none, _⟩ :: _) _; first | refine gq_op (hk := ?_) | (refine gq_nw (hk := ?_); intro u; try simp only [List.length_cons, List.length_nil, List.nil_append, Nat.zero_add])) | (show GO _ _ _ _ _ (⟨none, none, _⟩ :: _) _; refine go_st (hk := ?_)) | (show GO _ _ _ _ _ (⟨_, some _, _⟩ :: _) _; first | refine go_in (hk := ?_) | refine go_out (hk := ?_) | refine go_void (hk := ?_)) | (show GQ _ _ _ _ _ _ _ (⟨_, some _, _⟩ :: _) _; first | refine gq_in (hk := ?_) | refine gq_out (hk := ?_) | refine gq_void (hk := ?_)) | (show GK _ _ _ _ (blockK _ _ _); refine gk_past rfl ?_) | (show GC _ _ _ _ _ (.cond _ _ _) _; first | refine gc_yes (h1 := ?_) | refine gc_no (h1 := ?_))))
        exact gk_next (hk u)
      · have hk := hn ⟨e, v⟩ ⟨h3, st.2⟩ (by simp only; omega)
        simp only [st.1, if_neg (by omega : ¬ 1 < e - s)] at hk
        (repeat (first | with_reducible (first | refine go_nil ?_ | refine gk_seq ?_ | refine gc_seq ?_ | refine gc_reg ?_ | refine gc_skip ?_ | refine gk_block ?_ | refine gc_block ?_ | refine gc_exit ?_ | refine gc_ret ?_ | refine gk_seqret ?_ | refine gk_seqexit ?_ | refine gk_blockret ?_ | refine gk_out ?_ | refine gk_loopret ?_ | refine gk_loopexit ?_ | refine gq_nil ?_) | (with_reducible refine gc_drq ?_; intro _) | (show GO _ _ _ _ _ (⟨some _, none, .call _ _⟩ :: _) _; first | (show GO _ _ _ _ _ (⟨some _, none, .call fn_impl_ValidData _⟩ :: _) _; refine go_implValid (hk := ?_); try intro u) | (show GO _ _ _ _ _ (⟨some _, none, .call fn_impl_sortedCopy _⟩ :: _) _; refine go_calln rfl code_impl_sortedCopy.callable (fun H hH => sortedCopy_ok (hH.ints (by exact Has.auto)) (by omega)) ?_; intro u) | (show GO _ _ _ _ _ (⟨some _, none, .call fn_impl_sortedCopy _⟩ :: _) _; refine go_calln rfl code_impl_sortedCopy.callable (fun H hH => sortedCopyB_ok (hH.ints (by exact Has.auto)) (by omega)) ?_; intro u)) | (show GO _ _ _ _ _ (⟨some _, none, _⟩ :: _) _; first | refine go_op (hk := ?_) | (refine go_nw (hk := ?_); intro u; try simp only [List.length_cons, List.length_nil, List.nil_append, Nat.zero_add]) | (refine go_np (hk := ?_); intro id)) | (show GQ _ _ _ _ _ _ _ (⟨some _, none, _⟩ :: _) _; first | refine gq_op (hk := ?_) | (refine gq_nw (hk := ?_); intro u; try simp only [List.length_cons, List.length_nil, List.nil_append, Nat.zero_add])) | (show GO _ _ _ _ _ (⟨none, none, _⟩ :: _) _; refine go_st (hk := ?_)) | (show GO _ _ _ _ _ (⟨_, some _, _⟩ :: _) _; first | refine go_in (hk := ?_) | refine go_out (hk := ?_) | refine go_void (hk := ?_)) | (show GQ _ _ _ _ _ _ _ (⟨_, some _, _⟩ :: _) _; first | refine gq_in (hk := ?_) | refine gq_out (hk := ?_) | refine gq_void (hk := ?_)) | (show GK _ _ _ _ (blockK _ _ _); refine gk_past rfl ?_) | (show GC _ _ _ _ _ (.cond _ _ _) _; first | refine gc_yes (h1 := ?_) | refine gc_no (h1 := ?_))))
        exact gk_next hk
  · (repeat (first | with_reducible (first | refine go_nil ?_ | refine gk_seq ?_ | refine gc_seq ?_ | refine gc_reg ?_ | refine gc_skip ?_ | refine gk_block ?_ | refine gc_block ?_ | refine gc_exit ?_ | refine gc_ret ?_ | refine gk_seqret ?_ | refine gk_seqexit ?_ | refine gk_blockret ?_ | refine gk_out ?_ | refine gk_loopret ?_ | refine gk_loopexit ?_ | refine gq_nil ?_) | (with_reducible refine gc_drq ?_; intro _) | (show GO _ _ _ _ _ (⟨some _, none, .call _ _⟩ :: _) _; first | (show GO _ _ _ _ _ (⟨some _, none, .call fn_impl_ValidData _⟩ :: _) _; refine go_implValid (hk := ?_); try intro u) | (show GO _ _ _ _ _ (⟨some _, none, .call fn_impl_sortedCopy _⟩ :: _) _; refine go_calln rfl code_impl_sortedCopy.callable (fun H hH => sortedCopy_ok (hH.ints (by exact Has.auto)) (by omega)) ?_; intro u) | (show GO _ _ _ _ _ (⟨some _, none, .call fn_impl_sortedCopy _⟩ :: _) _; refine go_calln rfl code_impl_sortedCopy.callable (fun H hH => sortedCopyB_ok (hH.ints (by exact Has.auto)) (by omega)) ?_; intro u)) | (show GO _ _ _ _ _ (⟨some _, none, _⟩ :: _) _; first | refine go_op (hk := ?_) | (refine go_nw (hk := ?_); intro u; try simp only [List.length_cons, List.length_nil, List.nil_append, Nat.zero_add]) | (refine go_np (hk := ?_); intro id)) | (show GQ _ _ _ _ _ _ _ (⟨some _, none, _⟩ :: _) _; first | refine gq_op (hk := ?_) | (refine gq_nw (hk := ?_); intro u; try simp only [List.length_cons, List.length_nil, List.nil_append, Nat.zero_add])) | (show GO _ _ _ _ _ (⟨none, none, _⟩ :: _) _; refine go_st (hk := ?_)) | (show GO _ _ _ _ _ (⟨_, some _, _⟩ :: _) _; first | refine go_in (hk := ?_) | refine go_out (hk := ?_) | refine go_void (hk := ?_)) | (show GQ _ _ _ _ _ _ _ (⟨_, some _, _⟩ :: _) _; first | refine gq_in (hk := ?_) | refine gq_out (hk := ?_) | refine gq_void (hk := ?_)) | (show GK _ _ _ _ (blockK _ _ _); refine gk_past rfl ?_) | (show GC _ _ _ _ _ (.cond _ _ _) _; first | refine gc_yes (h1 := ?_) | refine gc_no (h1 := ?_))))
    have : s = xs.length := by omega
    subst this
    have e1 : posT (sortL xs) xs.length = 401 := by unfold posT; rw [if_neg (by omega)]
    refine gk_ret rfl fun H' hH => ?_
    unfold OwnI
    simp only [tiesOf, if_pos h]
    rw [e1] at hH
    exact hH.give .head

/-- how many sets of k of n, out of a power -/
def cb (n k : Nat) : Nat := 4294967297 ^ n / 4294967296 ^ k % 4294967296

def sumN (f : Nat → Nat) : Nat → Nat
  | 0 => 0
  | n + 1 => sumN f n + f n

theorem cb_le : ∀ n, n < 17 → ∀ k, k < 33 → cb n k ≤ 12870 := by decide +kernel

/-- how many sets of k of n -/
def chs (n : Nat) : Nat → Int
  | 0 => 1
  | i + 1 => chs n i * ((n : Int) - (i : Int)) / ((i + 1 : Nat) : Int)

theorem chs_facts : ∀ n, n < 33 → ∀ i, i < 33 → (0 ≤ chs n i ∧ chs n i ≤ 1000000000) ∧ 0 ≤ chs n i * ((n : Int) - (i : Int)) ∧ chs n i * ((n : Int) - (i : Int)) ≤ 100000000000 ∧ (n < i → chs n i = 0) := by decide +kernel

theorem specChoose_ok {H : Heap} {n k : Nat} (hn : n ≤ 32) (hk : k ≤ 32) : ACalls Try.prog fn_spec_choose [.int .i64 (n : Int), .int .i64 (k : Int)] H fun r H' => r = .int .i64 (chs n k) ∧ H' = H := by
  refine ACalls.val ?_ rfl
  refine code_spec_choose.go [] trivial (by simp) ?_
  unfold mc_spec_choose
  (repeat (first | with_reducible (first | refine go_nil ?_ | refine gk_seq ?_ | refine gc_seq ?_ | refine gc_reg ?_ | refine gc_skip ?_ | refine gk_block ?_ | refine gc_block ?_ | refine gc_exit ?_ | refine gc_ret ?_ | refine gk_seqret ?_ | refine gk_seqexit ?_ | refine gk_blockret ?_ | refine gk_out ?_ | refine gk_loopret ?_ | refine gk_loopexit ?_) | (show GO _ _ _ _ _ (⟨some _, none, _⟩ :: _) _; first | refine go_op (hk := ?_) | (refine go_nw (hk := ?_); intro u; try simp only [List.length_cons, List.length_nil, List.nil_append, Nat.zero_add]) | (refine go_np (hk := ?_); intro id)) | (show GO _ _ _ _ _ (⟨none, none, _⟩ :: _) _; refine go_st (hk := ?_)) | (show GO _ _ _ _ _ (⟨_, some _, _⟩ :: _) _; first | refine go_in (hk := ?_) | refine go_out (hk := ?_) | refine go_void (hk := ?_)) | (show GK _ _ _ _ (blockK _ _ _); refine gk_past rfl ?_) | (show GC _ _ _ _ _ (.cond _ _ _) _; first | refine gc_yes (h1 := ?_) | refine gc_no (h1 := ?_))))
  refine go_split 9 rfl (fun hc => by omega) (fun _ => ?_)
  (repeat (first | with_reducible (first | refine go_nil ?_ | refine gk_seq ?_ | refine gc_seq ?_ | refine gc_reg ?_ | refine gc_skip ?_ | refine gk_block ?_ | refine gc_block ?_ | refine gc_exit ?_ | refine gc_ret ?_ | refine gk_seqret ?_ | refine gk_seqexit ?_ | refine gk_blockret ?_ | refine gk_out ?_ | refine gk_loopret ?_ | refine gk_loopexit ?_) | (show GO _ _ _ _ _ (⟨some _, none, _⟩ :: _) _; first | refine go_op (hk := ?_) | (refine go_nw (hk := ?_); intro u; try simp only [List.length_cons, List.length_nil, List.nil_append, Nat.zero_add]) | (refine go_np (hk := ?_); intro id)) | (show GO _ _ _ _ _ (⟨none, none, _⟩ :: _) _; refine go_st (hk := ?_)) | (show GO _ _ _ _ _ (⟨_, some _, _⟩ :: _) _; first | refine go_in (hk := ?_) | refine go_out (hk := ?_) | refine go_void (hk := ?_)) | (show GK _ _ _ _ (blockK _ _ _); refine gk_past rfl ?_) | (show GC _ _ _ _ _ (.cond _ _ _) _; first | refine gc_yes (h1 := ?_) | refine gc_no (h1 := ?_))))
  refine gc_cond rfl (fun h => ?_) (fun h => ?_)
  · (repeat (first | with_reducible (first | refine go_nil ?_ | refine gk_seq ?_ | refine gc_seq ?_ | refine gc_reg ?_ | refine gc_skip ?_ | refine gk_block ?_ | refine gc_block ?_ | refine gc_exit ?_ | refine gc_ret ?_ | refine gk_seqret ?_ | refine gk_seqexit ?_ | refine gk_blockret ?_ | refine gk_out ?_ | refine gk_loopret ?_ | refine gk_loopexit ?_) | (show GO _ _ _ _ _ (⟨some _, none, _⟩ :: _) _; first | refine go_op (hk := ?_) | (refine go_nw (hk := ?_); intro u; try simp only [List.length_cons, List.length_nil, List.nil_append, Nat.zero_add]) | (refine go_np (hk := ?_); intro id)) | (show GO _ _ _ _ _ (⟨none, none, _⟩ :: _) _; refine go_st (hk := ?_)) | (show GO _ _ _ _ _ (⟨_, some _, _⟩ :: _) _; first | refine go_in (hk := ?_) | refine go_out (hk := ?_) | refine go_void (hk := ?_)) | (show GK _ _ _ _ (blockK _ _ _); refine gk_past rfl ?_) | (show GC _ _ _ _ _ (.cond _ _ _) _; first | refine gc_yes (h1 := ?_) | refine gc_no (h1 := ?_))))
    exact gk_ret rfl fun H' hH => ⟨by rw [(chs_facts n (by omega) k (by omega)).2.2.2 (by omega)]; rfl, hH.leE⟩
  (repeat (first | with_reducible (first | refine go_nil ?_ | refine gk_seq ?_ | refine gc_seq ?_ | refine gc_reg ?_ | refine gc_skip ?_ | refine gk_block ?_ | refine gc_block ?_ | refine gc_exit ?_ | refine gc_ret ?_ | refine gk_seqret ?_ | refine gk_seqexit ?_ | refine gk_blockret ?_ | refine gk_out ?_ | refine gk_loopret ?_ | refine gk_loopexit ?_) | (show GO _ _ _ _ _ (⟨some _, none, _⟩ :: _) _; first | refine go_op (hk := ?_) | (refine go_nw (hk := ?_); intro u; try simp only [List.length_cons, List.length_nil, List.nil_append, Nat.zero_add]) | (refine go_np (hk := ?_); intro id)) | (show GO _ _ _ _ _ (⟨none, none, _⟩ :: _) _; refine go_st (hk := ?_)) | (show GO _ _ _ _ _ (⟨_, some _, _⟩ :: _) _; first | refine go_in (hk := ?_) | refine go_out (hk := ?_) | refine go_void (hk := ?_)) | (show GK _ _ _ _ (blockK _ _ _); refine gk_past rfl ?_) | (show GC _ _ _ _ _ (.cond _ _ _) _; first | refine gc_yes (h1 := ?_) | refine gc_no (h1 := ?_))))
  refine gc_up k (fun i => [(0, .int .i64 (n : Int)), (1, .int .i64 (k : Int)), (5, .int .i64 (chs n i)), (6, .int .i64 (i : Int))]) (fun _ => []) (hb := ?_)
  intro i hi I ν m hk'
  have f := chs_facts n (by omega) i (by omega)
  have e : ((n - i : Nat) : Int) = (n : Int) - (i : Int) := by omega
  have e1 : chs n (i + 1) = chs n i * ((n - i : Nat) : Int) / ((i + 1 : Nat) : Int) := by rw [e]; rfl
  rw [← e] at f
  rw [e1] at hk'
  (repeat (first | with_reducible (first | refine go_nil ?_ | refine gk_seq ?_ | refine gc_seq ?_ | refine gc_reg ?_ | refine gc_skip ?_ | refine gk_block ?_ | refine gc_block ?_ | refine gc_exit ?_ | refine gc_ret ?_ | refine gk_seqret ?_ | refine gk_seqexit ?_ | refine gk_blockret ?_ | refine gk_out ?_ | refine gk_loopret ?_ | refine gk_loopexit ?_) | (show GO _ _ _ _ _ (⟨some _, none, _⟩ :: _) _; first | refine go_op (hk := ?_) | (refine go_nw (hk := ?_); intro u; try simp only [List.length_cons, List.length_nil, List.nil_append, Nat.zero_add]) | (refine go_np (hk := ?_); intro id)) | (show GO _ _ _ _ _ (⟨none, none, _⟩ :: _) _; refine go_st (hk := ?_)) | (show GO _ _ _ _ _ (⟨_, some _, _⟩ :: _) _; first | refine go_in (hk := ?_) | refine go_out (hk := ?_) | refine go_void (hk := ?_)) | (show GK _ _ _ _ (blockK _ _ _); refine gk_past rfl ?_) | (show GC _ _ _ _ _ (.cond _ _ _) _; first | refine gc_yes (h1 := ?_) | refine gc_no (h1 := ?_))))
  refine gc_cond rfl (fun h => ?_) (fun h => ?_)
  · (repeat (first | with_reducible (first | refine go_nil ?_ | refine gk_seq ?_ | refine gc_seq ?_ | refine gc_reg ?_ | refine gc_skip ?_ | refine gk_block ?_ | refine gc_block ?_ | refine gc_exit ?_ | refine gc_ret ?_ | refine gk_seqret ?_ | refine gk_seqexit ?_ | refine gk_blockret ?_ | refine gk_out ?_ | refine gk_loopret ?_ | refine gk_loopexit ?_) | (show GO _ _ _ _ _ (⟨some _, none, _⟩ :: _) _; first | refine go_op (hk := ?_) | (refine go_nw (hk := ?_); intro u; try simp only [List.length_cons, List.length_nil, List.nil_append, Nat.zero_add]) | (refine go_np (hk := ?_); intro id)) | (show GO _ _ _ _ _ (⟨none, none, _⟩ :: _) _; refine go_st (hk := ?_)) | (show GO _ _ _ _ _ (⟨_, some _, _⟩ :: _) _; first | refine go_in (hk := ?_) | refine go_out (hk := ?_) | refine go_void (hk := ?_)) | (show GK _ _ _ _ (blockK _ _ _); refine gk_past rfl ?_) | (show GC _ _ _ _ _ (.cond _ _ _) _; first | refine gc_yes (h1 := ?_) | refine gc_no (h1 := ?_))))
    exact gk_next (hk' (by omega))
  · (repeat (first | with_reducible (first | refine go_nil ?_ | refine gk_seq ?_ | refine gc_seq ?_ | refine gc_reg ?_ | refine gc_skip ?_ | refine gk_block ?_ | refine gc_block ?_ | refine gc_exit ?_ | refine gc_ret ?_ | refine gk_seqret ?_ | refine gk_seqexit ?_ | refine gk_blockret ?_ | refine gk_out ?_ | refine gk_loopret ?_ | refine gk_loopexit ?_) | (show GO _ _ _ _ _ (⟨some _, none, _⟩ :: _) _; first | refine go_op (hk := ?_) | (refine go_nw (hk := ?_); intro u; try simp only [List.length_cons, List.length_nil, List.nil_append, Nat.zero_add]) | (refine go_np (hk := ?_); intro id)) | (show GO _ _ _ _ _ (⟨none, none, _⟩ :: _) _; refine go_st (hk := ?_)) | (show GO _ _ _ _ _ (⟨_, some _, _⟩ :: _) _; first | refine go_in (hk := ?_) | refine go_out (hk := ?_) | refine go_void (hk := ?_)) | (show GK _ _ _ _ (blockK _ _ _); refine gk_past rfl ?_) | (show GC _ _ _ _ _ (.cond _ _ _) _; first | refine gc_yes (h1 := ?_) | refine gc_no (h1 := ?_))))
    have : i = k := by omega
    subst this
    exact gk_ret rfl fun H' hH => ⟨rfl, hH.leE⟩

theorem chs_cb : ∀ n, n < 33 → ∀ k, k < 33 → chs n k = (cb n k : Int) := by decide +kernel

theorem specChoose_cb {H : Heap} {n k : Nat} (hn : n ≤ 32) (hk : k ≤ 32) : ACalls Try.prog fn_spec_choose [.int .i64 (n : Int), .int .i64 (k : Int)] H fun r H' => r = .int .i64 (cb n k : Nat) ∧ H' = H := by
  rw [← chs_cb n (by omega) k (by omega)]; exact specChoose_ok hn hk

structure F4 where
  a : Int
  b : Int
  c : Int
  d : Int

abbrev F4.v (g : F4) : AV := .agg [.int .i64 g.a, .int .i64 g.b, .int .i64 g.c, .int .i64 g.d]

theorem lawsChoose_cb {H : Heap} {n k : Nat} (hn : n ≤ 32) (hk : k ≤ n) : ACalls Try.prog fn_laws_choose [.int .i64 (n : Int), .int .i64 (k : Int)] H fun r H' => r = .int .i64 (cb n k : Nat) ∧ H' = H := by
  rw [← chs_cb n (by omega) k (by omega)]
  refine ACalls.val ?_ rfl
  refine code_laws_choose.go [] trivial (by simp) ?_
  unfold mc_laws_choose
  (repeat (first | with_reducible (first | refine go_nil ?_ | refine gk_seq ?_ | refine gc_seq ?_ | refine gc_reg ?_ | refine gc_skip ?_ | refine gk_block ?_ | refine gc_block ?_ | refine gc_exit ?_ | refine gc_ret ?_ | refine gk_seqret ?_ | refine gk_seqexit ?_ | refine gk_blockret ?_ | refine gk_out ?_ | refine gk_loopret ?_ | refine gk_loopexit ?_) | (show GO _ _ _ _ _ (⟨some _, none, _⟩ :: _) _; first | refine go_op (hk := ?_) | (refine go_nw (hk := ?_); intro u; try simp only [List.length_cons, List.length_nil, List.nil_append, Nat.zero_add]) | (refine go_np (hk := ?_); intro id)) | (show GO _ _ _ _ _ (⟨none, none, _⟩ :: _) _; refine go_st (hk := ?_)) | (show GO _ _ _ _ _ (⟨_, some _, _⟩ :: _) _; first | refine go_in (hk := ?_) | refine go_out (hk := ?_) | refine go_void (hk := ?_)) | (show GK _ _ _ _ (blockK _ _ _); refine gk_past rfl ?_) | (show GC _ _ _ _ _ (.cond _ _ _) _; first | refine gc_yes (h1 := ?_) | refine gc_no (h1 := ?_))))
  refine gc_up k (fun i => [(0, .int .i64 (n : Int)), (1, .int .i64 (k : Int)), (5, .int .i64 (chs n i)), (6, .int .i64 (i : Int))]) (fun _ => []) (hb := ?_)
  intro i hi I ν m hk'
  have f := chs_facts n (by omega) i (by omega)
  have e : ((n - i : Nat) : Int) = (n : Int) - (i : Int) := by omega
  have e1 : chs n (i + 1) = chs n i * ((n - i : Nat) : Int) / ((i + 1 : Nat) : Int) := by rw [e]; rfl
  rw [← e] at f
  rw [e1] at hk'
  (repeat (first | with_reducible (first | refine go_nil ?_ | refine gk_seq ?_ | refine gc_seq ?_ | refine gc_reg ?_ | refine gc_skip ?_ | refine gk_block ?_ | refine gc_block ?_ | refine gc_exit ?_ | refine gc_ret ?_ | refine gk_seqret ?_ | refine gk_seqexit ?_ | refine gk_blockret ?_ | refine gk_out ?_ | refine gk_loopret ?_ | refine gk_loopexit ?_) | (show GO _ _ _ _ _ (⟨some _, none, _⟩ :: _) _; first | refine go_op (hk := ?_) | (refine go_nw (hk := ?_); intro u; try simp only [List.length_cons, List.length_nil, List.nil_append, Nat.zero_add]) | (refine go_np (hk := ?_); intro id)) | (show GO _ _ _ _ _ (⟨none, none, _⟩ :: _) _; refine go_st (hk := ?_)) | (show GO _ _ _ _ _ (⟨_, some _, _⟩ :: _) _; first | refine go_in (hk := ?_) | refine go_out (hk := ?_) | refine go_void (hk := ?_)) | (show GK _ _ _ _ (blockK _ _ _); refine gk_past rfl ?_) | (show GC _ _ _ _ _ (.cond _ _ _) _; first | refine gc_yes (h1 := ?_) | refine gc_no (h1 := ?_))))
  refine gc_cond rfl (fun h => ?_) (fun h => ?_)
  · (repeat (first | with_reducible (first | refine go_nil ?_ | refine gk_seq ?_ | refine gc_seq ?_ | refine gc_reg ?_ | refine gc_skip ?_ | refine gk_block ?_ | refine gc_block ?_ | refine gc_exit ?_ | refine gc_ret ?_ | refine gk_seqret ?_ | refine gk_seqexit ?_ | refine gk_blockret ?_ | refine gk_out ?_ | refine gk_loopret ?_ | refine gk_loopexit ?_) | (show GO _ _ _ _ _ (⟨some _, none, _⟩ :: _) _; first | refine go_op (hk := ?_) | (refine go_nw (hk := ?_); intro u; try simp only [List.length_cons, List.length_nil, List.nil_append, Nat.zero_add]) | (refine go_np (hk := ?_); intro id)) | (show GO _ _ _ _ _ (⟨none, none, _⟩ :: _) _; refine go_st (hk := ?_)) | (show GO _ _ _ _ _ (⟨_, some _, _⟩ :: _) _; first | refine go_in (hk := ?_) | refine go_out (hk := ?_) | refine go_void (hk := ?_)) | (show GK _ _ _ _ (blockK _ _ _); refine gk_past rfl ?_) | (show GC _ _ _ _ _ (.cond _ _ _) _; first | refine gc_yes (h1 := ?_) | refine gc_no (h1 := ?_))))
    exact gk_next (hk' (by omega))
  · (repeat (first | with_reducible (first | refine go_nil ?_ | refine gk_seq ?_ | refine gc_seq ?_ | refine gc_reg ?_ | refine gc_skip ?_ | refine gk_block ?_ | refine gc_block ?_ | refine gc_exit ?_ | refine gc_ret ?_ | refine gk_seqret ?_ | refine gk_seqexit ?_ | refine gk_blockret ?_ | refine gk_out ?_ | refine gk_loopret ?_ | refine gk_loopexit ?_) | (show GO _ _ _ _ _ (⟨some _, none, _⟩ :: _) _; first | refine go_op (hk := ?_) | (refine go_nw (hk := ?_); intro u; try simp only [List.length_cons, List.length_nil, List.nil_append, Nat.zero_add]) | (refine go_np (hk := ?_); intro id)) | (show GO _ _ _ _ _ (⟨none, none, _⟩ :: _) _; refine go_st (hk := ?_)) | (show GO _ _ _ _ _ (⟨_, some _, _⟩ :: _) _; first | refine go_in (hk := ?_) | refine go_out (hk := ?_) | refine go_void (hk := ?_)) | (show GK _ _ _ _ (blockK _ _ _); refine gk_past rfl ?_) | (show GC _ _ _ _ _ (.cond _ _ _) _; first | refine gc_yes (h1 := ?_) | refine gc_no (h1 := ?_))))
    have : i = k := by omega
    subst this
    exact gk_ret rfl fun H' hH => ⟨rfl, hH.leE⟩

theorem stp_cap0 {A : Heap} {X : List Nat} {E : List (Nat × AV)} {S : Sig} {x : MX} (hx : evE E x = some .nilSlice := by exact rfl) : Stp A X E S (.cap0 x) (Is (.int .i64 0) S) :=
  stp_pure fun τ H m nid hE hS => by simp only [mstep, ev_of hE hx]

/-- zeros upon nothing: a block by its address -/
theorem stp_app0 {A : Heap} {X : List Nat} {E : List (Nat × AV)} {S : Sig} {x : MX} {y : MX} {n : Nat} {z : List AV} {es bytes : Nat} (hx : evE E x = some .nilSlice := by exact rfl) (hy : evE E y = some (.int .i64 (n : Int)) := by exact rfl) (h0 : 0 < n) (hes : 0 < es) (hb : n * bytes ≤ 140737488355328) (hm : n ≤ 1000000000000) :
    Stp A X E S (.app0 x y z es bytes) (fun a b => ∃ id, a = .slice id 0 n none es ∧ b = ⟨.cell, .ptr id 0, es, n, zrep z (n * es)⟩ :: S) := by
  refine ⟨?_⟩
  intro τ H m nid hE hS hm'
  have hs := Heap.lt_new H nid (some ⟨true, zrep z (n * es)⟩)
  refine ⟨.slice nid 0 n none es, _, H.new nid (some ⟨true, zrep z (n * es)⟩), nid + 1, ⟨nid, rfl, rfl⟩, ?_, ?_, by omega, Nat.le_refl _, Heap.size_le_new _ _ _⟩
  · have hml : n ≤ maxLen := by simp only [maxLen]; omega
    simp only [mstep, ev_of hE hx, ev_of hE hy, Int.toNat_natCast]
    rw [if_pos ⟨by omega, hes, hb, hml⟩]
  · refine hS.add ?_ (by omega) hs ⟨?_, ⟨nid, rfl, .inl (by have := hS.am; omega), by simp [Heap.get_new]⟩⟩ ?_
    · intro id hid; rw [Heap.get_new, if_neg (by omega)]
    · intro k hk; simp only [AV.bid, Option.some.injEq] at hk; omega
    · intro k hk; simp only [AV.bid, Option.some.injEq] at hk; omega

theorem stp_len0 {A : Heap} {X : List Nat} {E : List (Nat × AV)} {S : Sig} {x : MX} {v : AV} (hx : evE E x = some v := by exact rfl) (hv : v.isSlice = true := by exact rfl) (hl : v.len = 0 := by exact rfl) : Stp A X E S (.len x) (Is (.int .i64 0) S) :=
  stp_pure fun τ H m nid hE hS => by simp only [mstep, ev_of hE hx, if_pos hv, hl]; rfl

theorem stp_slnil {A : Heap} {X : List Nat} {E : List (Nat × AV)} {S : Sig} {x : MX} {z : MX} (hx : evE E x = some .nilSlice := by exact rfl) (hz : evE E z = some (.int .i64 0) := by exact rfl) : Stp A X E S (.sl x none (some z) none 1) (Is .nilSlice S) :=
  stp_pure fun τ H m nid hE hS => by simp [mstep, ev_of hE hx, ev_of hE hz, msl, bnd, AV.len]

theorem stp_slempty {A : Heap} {X : List Nat} {E : List (Nat × AV)} {S : Sig} {x : MX} {z : MX} {id n : Nat} (hx : evE E x = some (.slice id 0 n none 1) := by exact rfl) (hz : evE E z = some (.int .i64 0) := by exact rfl) : Stp A X E S (.sl x none (some z) none 1) (Is (.slice id 0 0 none 1) S) :=
  stp_pure fun τ H m nid hE hS => by simp [mstep, ev_of hE hx, ev_of hE hz, msl, bnd, AV.len]

/-- append to no elements of a block of one's own -/
theorem stp_appc {A : Heap} {X : List Nat} {E : List (Nat × AV)} {S : Sig} {S0 : Sig} {x : MX} {y : MX} {w : AV} {id n es m' bytes : Nat} {cs news : List AV} (hx : evE E x = some (.slice id 0 0 none es)) (hy : evE E y = some w) (hs : Sel S ⟨.cell, .ptr id 0, es, n, cs⟩ S0) (hh : Has S w es m' news) (h0 : 0 < m') (hone : news.all AV.one = true) (he : 0 < es) (hb : m' * bytes ≤ 140737488355328) (hm2 : m' ≤ 1000000000000) :
    Stp A X E S (.app x y es bytes) (New fun u => ⟨.rw, u, es, m', news⟩ :: S0) := by
  refine ⟨?_⟩
  intro τ H m nid hE hS hm
  have hS' := hS.sel hs
  have hc := hS'.ch ⟨.cell, .ptr id 0, es, n, cs⟩ (by simp)
  have hy' := hS.valsA hh
  obtain ⟨h1, h2⟩ := hc
  simp only at h1 h2
  obtain ⟨id', h3, h4, h5⟩ := h2
  injection h3 with h3 _
  subst h3
  have hml : m' ≤ maxLen := by simp only [maxLen]; omega
  have ham := hS.am
  have hs := Heap.lt_new (H.put id none) nid (some ⟨true, news⟩)
  refine ⟨.slice nid 0 m' none es, _, (H.put id none).new nid (some ⟨true, news⟩), nid + 1, rfl, ?_, ?_, by omega, Nat.le_refl _, Heap.size_le_new (H.put id none) nid _⟩
  · simp only [mstep, ev_of hE hx, ev_of hE hy]
    unfold mapp
    rw [if_pos hy'.sl, hy'.row]
    simp only
    rw [if_pos ⟨by rw [hy'.cells, hy'.len], hone, he⟩, hy'.len, if_neg (by omega), if_pos ⟨by simpa using hb, by simpa using hml, trivial⟩, h5]
    simp
  · refine hS'.mod rfl ?_ (by omega) hs ⟨?_, hy'.cells, .inr ⟨nid, rfl, .inl (by omega), by simp [Heap.get_new]⟩⟩ (.inr ?_)
    · intro id' hid' hne
      rw [Heap.get_new, if_neg (by omega), Heap.get_put, if_neg]
      intro e; subst e; exact hne rfl
    · intro k hk; simp only [AV.bid, Option.some.injEq] at hk; omega
    · intro k hk; simp only [AV.bid, Option.some.injEq] at hk; omega

/-- a slice of two lists -/
theorem stp_bsl2 {A : Heap} {X : List Nat} {E : List (Nat × AV)} {S : Sig} {x : MX} {y : MX} {z a b : AV} (hx : evE E x = some a := by exact rfl) (hy : evE E y = some b := by exact rfl) (ha : a.cells = [a]) (hb : b.cells = [b]) (ha1 : a.one = true) (hb1 : b.one = true) :
    Stp A X E S (.bsl 2 1 [z] [(0, x), (1, y)]) (New fun v => ⟨.rw, v, 1, 2, [a, b]⟩ :: S) := by
  refine ⟨?_⟩
  intro τ H m nid hE hS hm
  have hs := Heap.lt_new H nid (some ⟨true, [a, b]⟩)
  refine ⟨.slice nid 0 2 none 1, _, H.new nid (some ⟨true, [a, b]⟩), nid + 1, rfl, ?_, ?_, by omega, Nat.le_refl _, Heap.size_le_new _ _ _⟩
  · simp only [mstep, List.map_cons, List.map_nil, ev_of hE hx, ev_of hE hy]
    have e : fillL (zrep [z] (2 * 1)) [(0 * 1, 1, a), (1 * 1, 1, b)] = some [a, b] := by
      simp [fillL, zrep, ha, hb, ha1, hb1, List.range_succ]
    rw [e]
  · refine hS.add ?_ (by omega) hs ⟨?_, rfl, .inr ⟨nid, rfl, .inl (by have := hS.am; omega), by simp [Heap.get_new]⟩⟩ ?_
    · intro id hid; rw [Heap.get_new, if_neg (by omega)]
    · intro k hk; simp only [AV.bid, Option.some.injEq] at hk; omega
    · intro k hk; simp only [AV.bid, Option.some.injEq] at hk; omega

theorem slice_cells {H : Heap} {a : AV} {xs : List Int} (h : Ints H a xs) : a.cells = [a] ∧ a.one = true := by
  have := h.sl
  cases a <;> simp [AV.isSlice] at this <;> exact ⟨rfl, rfl⟩

theorem grow_ok {A : Heap} {X : List Nat} {S : Sig} {H : Heap} {n : Nat} (hS : SOk A X S H.size H) (h0 : 0 < n) (hn : n ≤ 1000) :
    ACalls Try.prog fn_slices_Grow_ints [.nilSlice, .int .i64 (n : Int)] H fun r H' => ∃ g : Nat, r = .slice g 0 0 none 1 ∧ SOk A X (⟨.cell, .ptr g 0, 1, n, zrep [.int .i64 0] (n * 1)⟩ :: S) H'.size H' ∧ True := by
  refine code_slices_Grow_ints.gon (R := []) (V := fun g : Nat => .slice g 0 0 none 1) (T := fun g => [⟨.cell, .ptr g 0, 1, n, zrep [.int .i64 0] (n * 1)⟩]) (Φ := fun _ => True) hS trivial (fun _ => rfl) (by simp) ?_
  unfold mc_slices_Grow_ints
  (repeat (first | with_reducible (first | refine go_nil ?_ | refine gk_seq ?_ | refine gc_seq ?_ | refine gc_reg ?_ | refine gc_skip ?_ | refine gk_block ?_ | refine gc_block ?_ | refine gc_exit ?_ | refine gc_ret ?_ | refine gk_seqret ?_ | refine gk_seqexit ?_ | refine gk_blockret ?_ | refine gk_out ?_ | refine gk_loopret ?_ | refine gk_loopexit ?_) | (show GO _ _ _ _ _ (⟨some _, none, _⟩ :: _) _; first | refine go_op (hk := ?_) | (refine go_nw (hk := ?_); intro u; try simp only [List.length_cons, List.length_nil, List.nil_append, Nat.zero_add]) | (refine go_np (hk := ?_); intro id)) | (show GO _ _ _ _ _ (⟨none, none, _⟩ :: _) _; refine go_st (hk := ?_)) | (show GO _ _ _ _ _ (⟨_, some _, _⟩ :: _) _; first | refine go_in (hk := ?_) | refine go_out (hk := ?_) | refine go_void (hk := ?_)) | (show GK _ _ _ _ (blockK _ _ _); refine gk_past rfl ?_) | (show GC _ _ _ _ _ (.cond _ _ _) _; first | refine gc_yes (h1 := ?_) | refine gc_no (h1 := ?_))))
  refine gc_cond rfl (fun hc => by omega) (fun _ => ?_)
  (repeat (first | with_reducible (first | refine go_nil ?_ | refine gk_seq ?_ | refine gc_seq ?_ | refine gc_reg ?_ | refine gc_skip ?_ | refine gk_block ?_ | refine gc_block ?_ | refine gc_exit ?_ | refine gc_ret ?_ | refine gk_seqret ?_ | refine gk_seqexit ?_ | refine gk_blockret ?_ | refine gk_out ?_ | refine gk_loopret ?_ | refine gk_loopexit ?_) | (show GO _ _ _ _ _ (⟨some _, none, _⟩ :: _) _; first | refine go_op (hk := ?_) | (refine go_nw (hk := ?_); intro u; try simp only [List.length_cons, List.length_nil, List.nil_append, Nat.zero_add]) | (refine go_np (hk := ?_); intro id)) | (show GO _ _ _ _ _ (⟨none, none, _⟩ :: _) _; refine go_st (hk := ?_)) | (show GO _ _ _ _ _ (⟨_, some _, _⟩ :: _) _; first | refine go_in (hk := ?_) | refine go_out (hk := ?_) | refine go_void (hk := ?_)) | (show GK _ _ _ _ (blockK _ _ _); refine gk_past rfl ?_) | (show GC _ _ _ _ _ (.cond _ _ _) _; first | refine gc_yes (h1 := ?_) | refine gc_no (h1 := ?_))))
  refine go_is rfl stp_cap0 ?_
  (repeat (first | with_reducible (first | refine go_nil ?_ | refine gk_seq ?_ | refine gc_seq ?_ | refine gc_reg ?_ | refine gc_skip ?_ | refine gk_block ?_ | refine gc_block ?_ | refine gc_exit ?_ | refine gc_ret ?_ | refine gk_seqret ?_ | refine gk_seqexit ?_ | refine gk_blockret ?_ | refine gk_out ?_ | refine gk_loopret ?_ | refine gk_loopexit ?_) | (show GO _ _ _ _ _ (⟨some _, none, _⟩ :: _) _; first | refine go_op (hk := ?_) | (refine go_nw (hk := ?_); intro u; try simp only [List.length_cons, List.length_nil, List.nil_append, Nat.zero_add]) | (refine go_np (hk := ?_); intro id)) | (show GO _ _ _ _ _ (⟨none, none, _⟩ :: _) _; refine go_st (hk := ?_)) | (show GO _ _ _ _ _ (⟨_, some _, _⟩ :: _) _; first | refine go_in (hk := ?_) | refine go_out (hk := ?_) | refine go_void (hk := ?_)) | (show GK _ _ _ _ (blockK _ _ _); refine gk_past rfl ?_) | (show GC _ _ _ _ _ (.cond _ _ _) _; first | refine gc_yes (h1 := ?_) | refine gc_no (h1 := ?_))))
  refine go_is rfl stp_len0 ?_
  (repeat (first | with_reducible (first | refine go_nil ?_ | refine gk_seq ?_ | refine gc_seq ?_ | refine gc_reg ?_ | refine gc_skip ?_ | refine gk_block ?_ | refine gc_block ?_ | refine gc_exit ?_ | refine gc_ret ?_ | refine gk_seqret ?_ | refine gk_seqexit ?_ | refine gk_blockret ?_ | refine gk_out ?_ | refine gk_loopret ?_ | refine gk_loopexit ?_) | (show GO _ _ _ _ _ (⟨some _, none, _⟩ :: _) _; first | refine go_op (hk := ?_) | (refine go_nw (hk := ?_); intro u; try simp only [List.length_cons, List.length_nil, List.nil_append, Nat.zero_add]) | (refine go_np (hk := ?_); intro id)) | (show GO _ _ _ _ _ (⟨none, none, _⟩ :: _) _; refine go_st (hk := ?_)) | (show GO _ _ _ _ _ (⟨_, some _, _⟩ :: _) _; first | refine go_in (hk := ?_) | refine go_out (hk := ?_) | refine go_void (hk := ?_)) | (show GK _ _ _ _ (blockK _ _ _); refine gk_past rfl ?_) | (show GC _ _ _ _ _ (.cond _ _ _) _; first | refine gc_yes (h1 := ?_) | refine gc_no (h1 := ?_))))
  refine gc_cond rfl (fun _ => ?_) (fun hc => by omega)
  (repeat (first | with_reducible (first | refine go_nil ?_ | refine gk_seq ?_ | refine gc_seq ?_ | refine gc_reg ?_ | refine gc_skip ?_ | refine gk_block ?_ | refine gc_block ?_ | refine gc_exit ?_ | refine gc_ret ?_ | refine gk_seqret ?_ | refine gk_seqexit ?_ | refine gk_blockret ?_ | refine gk_out ?_ | refine gk_loopret ?_ | refine gk_loopexit ?_) | (show GO _ _ _ _ _ (⟨some _, none, _⟩ :: _) _; first | refine go_op (hk := ?_) | (refine go_nw (hk := ?_); intro u; try simp only [List.length_cons, List.length_nil, List.nil_append, Nat.zero_add]) | (refine go_np (hk := ?_); intro id)) | (show GO _ _ _ _ _ (⟨none, none, _⟩ :: _) _; refine go_st (hk := ?_)) | (show GO _ _ _ _ _ (⟨_, some _, _⟩ :: _) _; first | refine go_in (hk := ?_) | refine go_out (hk := ?_) | refine go_void (hk := ?_)) | (show GK _ _ _ _ (blockK _ _ _); refine gk_past rfl ?_) | (show GC _ _ _ _ _ (.cond _ _ _) _; first | refine gc_yes (h1 := ?_) | refine gc_no (h1 := ?_))))
  refine go_is rfl stp_cap0 ?_
  refine go_is rfl stp_slnil ?_
  (repeat (first | with_reducible (first | refine go_nil ?_ | refine gk_seq ?_ | refine gc_seq ?_ | refine gc_reg ?_ | refine gc_skip ?_ | refine gk_block ?_ | refine gc_block ?_ | refine gc_exit ?_ | refine gc_ret ?_ | refine gk_seqret ?_ | refine gk_seqexit ?_ | refine gk_blockret ?_ | refine gk_out ?_ | refine gk_loopret ?_ | refine gk_loopexit ?_) | (show GO _ _ _ _ _ (⟨some _, none, _⟩ :: _) _; first | refine go_op (hk := ?_) | (refine go_nw (hk := ?_); intro u; try simp only [List.length_cons, List.length_nil, List.nil_append, Nat.zero_add]) | (refine go_np (hk := ?_); intro id)) | (show GO _ _ _ _ _ (⟨none, none, _⟩ :: _) _; refine go_st (hk := ?_)) | (show GO _ _ _ _ _ (⟨_, some _, _⟩ :: _) _; first | refine go_in (hk := ?_) | refine go_out (hk := ?_) | refine go_void (hk := ?_)) | (show GK _ _ _ _ (blockK _ _ _); refine gk_past rfl ?_) | (show GC _ _ _ _ _ (.cond _ _ _) _; first | refine gc_yes (h1 := ?_) | refine gc_no (h1 := ?_))))
  refine go_step (stp_app0 (n := n) rfl (by exact rfl) h0 (by omega) (by omega) (by omega)) rfl ?_
  rintro u S' ⟨id, rfl, rfl⟩
  (repeat (first | with_reducible (first | refine go_nil ?_ | refine gk_seq ?_ | refine gc_seq ?_ | refine gc_reg ?_ | refine gc_skip ?_ | refine gk_block ?_ | refine gc_block ?_ | refine gc_exit ?_ | refine gc_ret ?_ | refine gk_seqret ?_ | refine gk_seqexit ?_ | refine gk_blockret ?_ | refine gk_out ?_ | refine gk_loopret ?_ | refine gk_loopexit ?_) | (show GO _ _ _ _ _ (⟨some _, none, _⟩ :: _) _; first | refine go_op (hk := ?_) | (refine go_nw (hk := ?_); intro u; try simp only [List.length_cons, List.length_nil, List.nil_append, Nat.zero_add]) | (refine go_np (hk := ?_); intro id)) | (show GO _ _ _ _ _ (⟨none, none, _⟩ :: _) _; refine go_st (hk := ?_)) | (show GO _ _ _ _ _ (⟨_, some _, _⟩ :: _) _; first | refine go_in (hk := ?_) | refine go_out (hk := ?_) | refine go_void (hk := ?_)) | (show GK _ _ _ _ (blockK _ _ _); refine gk_past rfl ?_) | (show GC _ _ _ _ _ (.cond _ _ _) _; first | refine gc_yes (h1 := ?_) | refine gc_no (h1 := ?_))))
  refine go_is rfl stp_len0 ?_
  refine go_is rfl stp_slempty ?_
  (repeat (first | with_reducible (first | refine go_nil ?_ | refine gk_seq ?_ | refine gc_seq ?_ | refine gc_reg ?_ | refine gc_skip ?_ | refine gk_block ?_ | refine gc_block ?_ | refine gc_exit ?_ | refine gc_ret ?_ | refine gk_seqret ?_ | refine gk_seqexit ?_ | refine gk_blockret ?_ | refine gk_out ?_ | refine gk_loopret ?_ | refine gk_loopexit ?_) | (show GO _ _ _ _ _ (⟨some _, none, _⟩ :: _) _; first | refine go_op (hk := ?_) | (refine go_nw (hk := ?_); intro u; try simp only [List.length_cons, List.length_nil, List.nil_append, Nat.zero_add]) | (refine go_np (hk := ?_); intro id)) | (show GO _ _ _ _ _ (⟨none, none, _⟩ :: _) _; refine go_st (hk := ?_)) | (show GO _ _ _ _ _ (⟨_, some _, _⟩ :: _) _; first | refine go_in (hk := ?_) | refine go_out (hk := ?_) | refine go_void (hk := ?_)) | (show GK _ _ _ _ (blockK _ _ _); refine gk_past rfl ?_) | (show GC _ _ _ _ _ (.cond _ _ _) _; first | refine gc_yes (h1 := ?_) | refine gc_no (h1 := ?_))))
  exact gk_ret rfl fun H' hH => ⟨id, rfl, trivial, hH.sub (by exact Sub.auto)⟩

def pre2 (m n : Nat) : Nat → Nat
  | 0 => 0
  | 1 => m
  | _ => m + n

end Go.Rx.Try
