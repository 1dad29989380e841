import Derived.Test.YtibefcnnhbdcgagFnCurveOfD3
namespace Go.Rx.Try
open Go.Proofs
set_option maxRecDepth 100000
set_option maxHeartbeats 8000000
set_option linter.unusedSimpArgs false
set_option linter.unusedVariables false

theorem specValidPoints_ok {H : Heap} {a b : AV} {xs ys : List Int} (ha : Ints H a xs) (hb : Ints H b ys) (hl : xs.length ≤ 1000000000) (hl' : ys.length ≤ 1000000000) :
    ACalls Try.prog fn_spec_validPoints [a, b] H fun r H' => r = .bool (decide (Pts xs ys)) ∧ H' = H := by
  refine ACalls.val ?_ rfl
  refine code_spec_validPoints.go [.roI a xs.length xs, .roI b ys.length ys] ⟨⟨rfl, ha⟩, ⟨rfl, hb⟩, trivial⟩ (by simp) ?_
  unfold mc_spec_validPoints
  (repeat (first | with_reducible (first | refine go_nil ?_ | refine gk_seq ?_ | refine gc_seq ?_ | refine gc_reg ?_ | refine gc_skip ?_ | refine gk_block ?_ | refine gc_block ?_ | refine gc_exit ?_ | refine gc_ret ?_ | refine gk_seqret ?_ | refine gk_seqexit ?_ | refine gk_blockret ?_ | refine gk_out ?_ | refine gk_loopret ?_ | refine gk_loopexit ?_) | (show GO _ _ _ _ _ (⟨some _, none, .call _ _⟩ :: _) _; first | (show GO _ _ _ _ _ (⟨some _, none, .call fn_spec_inRange _⟩ :: _) _; refine go_inRange (hk := ?_); try intro u)) | (show GO _ _ _ _ _ (⟨some _, none, _⟩ :: _) _; first | refine go_op (hk := ?_) | (refine go_nw (hk := ?_); intro u; try simp only [List.length_cons, List.length_nil, List.nil_append, Nat.zero_add]) | (refine go_np (hk := ?_); intro id)) | (show GO _ _ _ _ _ (⟨none, none, _⟩ :: _) _; refine go_st (hk := ?_)) | (show GO _ _ _ _ _ (⟨_, some _, _⟩ :: _) _; first | refine go_in (hk := ?_) | refine go_out (hk := ?_) | refine go_void (hk := ?_)) | (show GK _ _ _ _ (blockK _ _ _); refine gk_past rfl ?_) | (show GC _ _ _ _ _ (.cond _ _ _) _; first | refine gc_yes (h1 := ?_) | refine gc_no (h1 := ?_))))
  refine gc_loop (γ := Nat) (fun i => [(0, a), (1, b), (5, .int .i64 (i : Int))]) (fun _ => [.roI a xs.length xs, .roI b ys.length ys]) (fun i => i ≤ xs.length ∧ PtsT xs ys i) (fun i => xs.length - i) 0 ⟨Nat.zero_le _, fun k hk => by omega⟩ (hb := ?_)
  rintro i ⟨hi, hp⟩ I ν m hk
  (repeat (first | with_reducible (first | refine go_nil ?_ | refine gk_seq ?_ | refine gc_seq ?_ | refine gc_reg ?_ | refine gc_skip ?_ | refine gk_block ?_ | refine gc_block ?_ | refine gc_exit ?_ | refine gc_ret ?_ | refine gk_seqret ?_ | refine gk_seqexit ?_ | refine gk_blockret ?_ | refine gk_out ?_ | refine gk_loopret ?_ | refine gk_loopexit ?_) | (show GO _ _ _ _ _ (⟨some _, none, .call _ _⟩ :: _) _; first | (show GO _ _ _ _ _ (⟨some _, none, .call fn_spec_inRange _⟩ :: _) _; refine go_inRange (hk := ?_); try intro u)) | (show GO _ _ _ _ _ (⟨some _, none, _⟩ :: _) _; first | refine go_op (hk := ?_) | (refine go_nw (hk := ?_); intro u; try simp only [List.length_cons, List.length_nil, List.nil_append, Nat.zero_add]) | (refine go_np (hk := ?_); intro id)) | (show GO _ _ _ _ _ (⟨none, none, _⟩ :: _) _; refine go_st (hk := ?_)) | (show GO _ _ _ _ _ (⟨_, some _, _⟩ :: _) _; first | refine go_in (hk := ?_) | refine go_out (hk := ?_) | refine go_void (hk := ?_)) | (show GK _ _ _ _ (blockK _ _ _); refine gk_past rfl ?_) | (show GC _ _ _ _ _ (.cond _ _ _) _; first | refine gc_yes (h1 := ?_) | refine gc_no (h1 := ?_))))
  refine gc_cond rfl (fun h => ?_) (fun h => ?_)
  · have no : ∀ {p : Prop}, (Pts xs ys → p) → ¬ p → decide (Pts xs ys) = false := fun h1 h2 => decide_eq_false fun h3 => h2 (h1 h3)
    (repeat (first | with_reducible (first | refine go_nil ?_ | refine gk_seq ?_ | refine gc_seq ?_ | refine gc_reg ?_ | refine gc_skip ?_ | refine gk_block ?_ | refine gc_block ?_ | refine gc_exit ?_ | refine gc_ret ?_ | refine gk_seqret ?_ | refine gk_seqexit ?_ | refine gk_blockret ?_ | refine gk_out ?_ | refine gk_loopret ?_ | refine gk_loopexit ?_) | (show GO _ _ _ _ _ (⟨some _, none, .call _ _⟩ :: _) _; first | (show GO _ _ _ _ _ (⟨some _, none, .call fn_spec_inRange _⟩ :: _) _; refine go_inRange (hk := ?_); try intro u)) | (show GO _ _ _ _ _ (⟨some _, none, _⟩ :: _) _; first | refine go_op (hk := ?_) | (refine go_nw (hk := ?_); intro u; try simp only [List.length_cons, List.length_nil, List.nil_append, Nat.zero_add]) | (refine go_np (hk := ?_); intro id)) | (show GO _ _ _ _ _ (⟨none, none, _⟩ :: _) _; refine go_st (hk := ?_)) | (show GO _ _ _ _ _ (⟨_, some _, _⟩ :: _) _; first | refine go_in (hk := ?_) | refine go_out (hk := ?_) | refine go_void (hk := ?_)) | (show GK _ _ _ _ (blockK _ _ _); refine gk_past rfl ?_) | (show GC _ _ _ _ _ (.cond _ _ _) _; first | refine gc_yes (h1 := ?_) | refine gc_no (h1 := ?_))))
    refine go_split 16 rfl (fun h1 => ?_) (fun h1 => ?_)
    · (repeat (first | with_reducible (first | refine go_nil ?_ | refine gk_seq ?_ | refine gc_seq ?_ | refine gc_reg ?_ | refine gc_skip ?_ | refine gk_block ?_ | refine gc_block ?_ | refine gc_exit ?_ | refine gc_ret ?_ | refine gk_seqret ?_ | refine gk_seqexit ?_ | refine gk_blockret ?_ | refine gk_out ?_ | refine gk_loopret ?_ | refine gk_loopexit ?_) | (show GO _ _ _ _ _ (⟨some _, none, .call _ _⟩ :: _) _; first | (show GO _ _ _ _ _ (⟨some _, none, .call fn_spec_inRange _⟩ :: _) _; refine go_inRange (hk := ?_); try intro u)) | (show GO _ _ _ _ _ (⟨some _, none, _⟩ :: _) _; first | refine go_op (hk := ?_) | (refine go_nw (hk := ?_); intro u; try simp only [List.length_cons, List.length_nil, List.nil_append, Nat.zero_add]) | (refine go_np (hk := ?_); intro id)) | (show GO _ _ _ _ _ (⟨none, none, _⟩ :: _) _; refine go_st (hk := ?_)) | (show GO _ _ _ _ _ (⟨_, some _, _⟩ :: _) _; first | refine go_in (hk := ?_) | refine go_out (hk := ?_) | refine go_void (hk := ?_)) | (show GK _ _ _ _ (blockK _ _ _); refine gk_past rfl ?_) | (show GC _ _ _ _ _ (.cond _ _ _) _; first | refine gc_yes (h1 := ?_) | refine gc_no (h1 := ?_))))
      exact gk_ret rfl fun H' hH => ⟨by rw [no (fun h => (h.1 i (by omega)).1) (by omega)]; rfl, hH.leE⟩
    (repeat (first | with_reducible (first | refine go_nil ?_ | refine gk_seq ?_ | refine gc_seq ?_ | refine gc_reg ?_ | refine gc_skip ?_ | refine gk_block ?_ | refine gc_block ?_ | refine gc_exit ?_ | refine gc_ret ?_ | refine gk_seqret ?_ | refine gk_seqexit ?_ | refine gk_blockret ?_ | refine gk_out ?_ | refine gk_loopret ?_ | refine gk_loopexit ?_) | (show GO _ _ _ _ _ (⟨some _, none, .call _ _⟩ :: _) _; first | (show GO _ _ _ _ _ (⟨some _, none, .call fn_spec_inRange _⟩ :: _) _; refine go_inRange (hk := ?_); try intro u)) | (show GO _ _ _ _ _ (⟨some _, none, _⟩ :: _) _; first | refine go_op (hk := ?_) | (refine go_nw (hk := ?_); intro u; try simp only [List.length_cons, List.length_nil, List.nil_append, Nat.zero_add]) | (refine go_np (hk := ?_); intro id)) | (show GO _ _ _ _ _ (⟨none, none, _⟩ :: _) _; refine go_st (hk := ?_)) | (show GO _ _ _ _ _ (⟨_, some _, _⟩ :: _) _; first | refine go_in (hk := ?_) | refine go_out (hk := ?_) | refine go_void (hk := ?_)) | (show GK _ _ _ _ (blockK _ _ _); refine gk_past rfl ?_) | (show GC _ _ _ _ _ (.cond _ _ _) _; first | refine gc_yes (h1 := ?_) | refine gc_no (h1 := ?_))))
    refine go_split 24 rfl (fun h2 => ?_) (fun h2 => ?_)
    · (repeat (first | with_reducible (first | refine go_nil ?_ | refine gk_seq ?_ | refine gc_seq ?_ | refine gc_reg ?_ | refine gc_skip ?_ | refine gk_block ?_ | refine gc_block ?_ | refine gc_exit ?_ | refine gc_ret ?_ | refine gk_seqret ?_ | refine gk_seqexit ?_ | refine gk_blockret ?_ | refine gk_out ?_ | refine gk_loopret ?_ | refine gk_loopexit ?_) | (show GO _ _ _ _ _ (⟨some _, none, .call _ _⟩ :: _) _; first | (show GO _ _ _ _ _ (⟨some _, none, .call fn_spec_inRange _⟩ :: _) _; refine go_inRange (hk := ?_); try intro u)) | (show GO _ _ _ _ _ (⟨some _, none, _⟩ :: _) _; first | refine go_op (hk := ?_) | (refine go_nw (hk := ?_); intro u; try simp only [List.length_cons, List.length_nil, List.nil_append, Nat.zero_add]) | (refine go_np (hk := ?_); intro id)) | (show GO _ _ _ _ _ (⟨none, none, _⟩ :: _) _; refine go_st (hk := ?_)) | (show GO _ _ _ _ _ (⟨_, some _, _⟩ :: _) _; first | refine go_in (hk := ?_) | refine go_out (hk := ?_) | refine go_void (hk := ?_)) | (show GK _ _ _ _ (blockK _ _ _); refine gk_past rfl ?_) | (show GC _ _ _ _ _ (.cond _ _ _) _; first | refine gc_yes (h1 := ?_) | refine gc_no (h1 := ?_))))
      exact gk_ret rfl fun H' hH => ⟨by rw [no (fun h => (h.1 i (by omega)).2.1) h2]; rfl, hH.leE⟩
    (repeat (first | with_reducible (first | refine go_nil ?_ | refine gk_seq ?_ | refine gc_seq ?_ | refine gc_reg ?_ | refine gc_skip ?_ | refine gk_block ?_ | refine gc_block ?_ | refine gc_exit ?_ | refine gc_ret ?_ | refine gk_seqret ?_ | refine gk_seqexit ?_ | refine gk_blockret ?_ | refine gk_out ?_ | refine gk_loopret ?_ | refine gk_loopexit ?_) | (show GO _ _ _ _ _ (⟨some _, none, .call _ _⟩ :: _) _; first | (show GO _ _ _ _ _ (⟨some _, none, .call fn_spec_inRange _⟩ :: _) _; refine go_inRange (hk := ?_); try intro u)) | (show GO _ _ _ _ _ (⟨some _, none, _⟩ :: _) _; first | refine go_op (hk := ?_) | (refine go_nw (hk := ?_); intro u; try simp only [List.length_cons, List.length_nil, List.nil_append, Nat.zero_add]) | (refine go_np (hk := ?_); intro id)) | (show GO _ _ _ _ _ (⟨none, none, _⟩ :: _) _; refine go_st (hk := ?_)) | (show GO _ _ _ _ _ (⟨_, some _, _⟩ :: _) _; first | refine go_in (hk := ?_) | refine go_out (hk := ?_) | refine go_void (hk := ?_)) | (show GK _ _ _ _ (blockK _ _ _); refine gk_past rfl ?_) | (show GC _ _ _ _ _ (.cond _ _ _) _; first | refine gc_yes (h1 := ?_) | refine gc_no (h1 := ?_))))
    refine gc_cond rfl (fun h3 => ?_) (fun h3 => ?_)
    · (repeat (first | with_reducible (first | refine go_nil ?_ | refine gk_seq ?_ | refine gc_seq ?_ | refine gc_reg ?_ | refine gc_skip ?_ | refine gk_block ?_ | refine gc_block ?_ | refine gc_exit ?_ | refine gc_ret ?_ | refine gk_seqret ?_ | refine gk_seqexit ?_ | refine gk_blockret ?_ | refine gk_out ?_ | refine gk_loopret ?_ | refine gk_loopexit ?_) | (show GO _ _ _ _ _ (⟨some _, none, .call _ _⟩ :: _) _; first | (show GO _ _ _ _ _ (⟨some _, none, .call fn_spec_inRange _⟩ :: _) _; refine go_inRange (hk := ?_); try intro u)) | (show GO _ _ _ _ _ (⟨some _, none, _⟩ :: _) _; first | refine go_op (hk := ?_) | (refine go_nw (hk := ?_); intro u; try simp only [List.length_cons, List.length_nil, List.nil_append, Nat.zero_add]) | (refine go_np (hk := ?_); intro id)) | (show GO _ _ _ _ _ (⟨none, none, _⟩ :: _) _; refine go_st (hk := ?_)) | (show GO _ _ _ _ _ (⟨_, some _, _⟩ :: _) _; first | refine go_in (hk := ?_) | refine go_out (hk := ?_) | refine go_void (hk := ?_)) | (show GK _ _ _ _ (blockK _ _ _); refine gk_past rfl ?_) | (show GC _ _ _ _ _ (.cond _ _ _) _; first | refine gc_yes (h1 := ?_) | refine gc_no (h1 := ?_))))
      exact gk_ret rfl fun H' hH => ⟨by rw [no (fun h => (h.1 i (by omega)).2.2) h3]; rfl, hH.leE⟩
    (repeat (first | with_reducible (first | refine go_nil ?_ | refine gk_seq ?_ | refine gc_seq ?_ | refine gc_reg ?_ | refine gc_skip ?_ | refine gk_block ?_ | refine gc_block ?_ | refine gc_exit ?_ | refine gc_ret ?_ | refine gk_seqret ?_ | refine gk_seqexit ?_ | refine gk_blockret ?_ | refine gk_out ?_ | refine gk_loopret ?_ | refine gk_loopexit ?_) | (show GO _ _ _ _ _ (⟨some _, none, .call _ _⟩ :: _) _; first | (show GO _ _ _ _ _ (⟨some _, none, .call fn_spec_inRange _⟩ :: _) _; refine go_inRange (hk := ?_); try intro u)) | (show GO _ _ _ _ _ (⟨some _, none, _⟩ :: _) _; first | refine go_op (hk := ?_) | (refine go_nw (hk := ?_); intro u; try simp only [List.length_cons, List.length_nil, List.nil_append, Nat.zero_add]) | (refine go_np (hk := ?_); intro id)) | (show GO _ _ _ _ _ (⟨none, none, _⟩ :: _) _; refine go_st (hk := ?_)) | (show GO _ _ _ _ _ (⟨_, some _, _⟩ :: _) _; first | refine go_in (hk := ?_) | refine go_out (hk := ?_) | refine go_void (hk := ?_)) | (show GK _ _ _ _ (blockK _ _ _); refine gk_past rfl ?_) | (show GC _ _ _ _ _ (.cond _ _ _) _; first | refine gc_yes (h1 := ?_) | refine gc_no (h1 := ?_))))
    exact gk_next (hk (i + 1) ⟨by omega, hp.succ (by omega) (Decidable.not_not.1 h2) (Decidable.not_not.1 h3)⟩ (by omega))
  · have : i = xs.length := by omega
    subst this
    (repeat (first | with_reducible (first | refine go_nil ?_ | refine gk_seq ?_ | refine gc_seq ?_ | refine gc_reg ?_ | refine gc_skip ?_ | refine gk_block ?_ | refine gc_block ?_ | refine gc_exit ?_ | refine gc_ret ?_ | refine gk_seqret ?_ | refine gk_seqexit ?_ | refine gk_blockret ?_ | refine gk_out ?_ | refine gk_loopret ?_ | refine gk_loopexit ?_) | (show GO _ _ _ _ _ (⟨some _, none, .call _ _⟩ :: _) _; first | (show GO _ _ _ _ _ (⟨some _, none, .call fn_spec_inRange _⟩ :: _) _; refine go_inRange (hk := ?_); try intro u)) | (show GO _ _ _ _ _ (⟨some _, none, _⟩ :: _) _; first | refine go_op (hk := ?_) | (refine go_nw (hk := ?_); intro u; try simp only [List.length_cons, List.length_nil, List.nil_append, Nat.zero_add]) | (refine go_np (hk := ?_); intro id)) | (show GO _ _ _ _ _ (⟨none, none, _⟩ :: _) _; refine go_st (hk := ?_)) | (show GO _ _ _ _ _ (⟨_, some _, _⟩ :: _) _; first | refine go_in (hk := ?_) | refine go_out (hk := ?_) | refine go_void (hk := ?_)) | (show GK _ _ _ _ (blockK _ _ _); refine gk_past rfl ?_) | (show GC _ _ _ _ _ (.cond _ _ _) _; first | refine gc_yes (h1 := ?_) | refine gc_no (h1 := ?_))))
    refine go_split 37 rfl (fun h1 => ?_) (fun h1 => ?_)
    · (repeat (first | with_reducible (first | refine go_nil ?_ | refine gk_seq ?_ | refine gc_seq ?_ | refine gc_reg ?_ | refine gc_skip ?_ | refine gk_block ?_ | refine gc_block ?_ | refine gc_exit ?_ | refine gc_ret ?_ | refine gk_seqret ?_ | refine gk_seqexit ?_ | refine gk_blockret ?_ | refine gk_out ?_ | refine gk_loopret ?_ | refine gk_loopexit ?_) | (show GO _ _ _ _ _ (⟨some _, none, .call _ _⟩ :: _) _; first | (show GO _ _ _ _ _ (⟨some _, none, .call fn_spec_inRange _⟩ :: _) _; refine go_inRange (hk := ?_); try intro u)) | (show GO _ _ _ _ _ (⟨some _, none, _⟩ :: _) _; first | refine go_op (hk := ?_) | (refine go_nw (hk := ?_); intro u; try simp only [List.length_cons, List.length_nil, List.nil_append, Nat.zero_add]) | (refine go_np (hk := ?_); intro id)) | (show GO _ _ _ _ _ (⟨none, none, _⟩ :: _) _; refine go_st (hk := ?_)) | (show GO _ _ _ _ _ (⟨_, some _, _⟩ :: _) _; first | refine go_in (hk := ?_) | refine go_out (hk := ?_) | refine go_void (hk := ?_)) | (show GK _ _ _ _ (blockK _ _ _); refine gk_past rfl ?_) | (show GC _ _ _ _ _ (.cond _ _ _) _; first | refine gc_yes (h1 := ?_) | refine gc_no (h1 := ?_))))
      exact gk_ret rfl fun H' hH => ⟨by
        simp only [tupleOf]; congr 1
        refine decide_eq_decide.2 ⟨fun h2 => ⟨hp, by omega, by omega⟩, fun h2 => by have := h2.2.2; omega⟩, hH.leE⟩
    · (repeat (first | with_reducible (first | refine go_nil ?_ | refine gk_seq ?_ | refine gc_seq ?_ | refine gc_reg ?_ | refine gc_skip ?_ | refine gk_block ?_ | refine gc_block ?_ | refine gc_exit ?_ | refine gc_ret ?_ | refine gk_seqret ?_ | refine gk_seqexit ?_ | refine gk_blockret ?_ | refine gk_out ?_ | refine gk_loopret ?_ | refine gk_loopexit ?_) | (show GO _ _ _ _ _ (⟨some _, none, .call _ _⟩ :: _) _; first | (show GO _ _ _ _ _ (⟨some _, none, .call fn_spec_inRange _⟩ :: _) _; refine go_inRange (hk := ?_); try intro u)) | (show GO _ _ _ _ _ (⟨some _, none, _⟩ :: _) _; first | refine go_op (hk := ?_) | (refine go_nw (hk := ?_); intro u; try simp only [List.length_cons, List.length_nil, List.nil_append, Nat.zero_add]) | (refine go_np (hk := ?_); intro id)) | (show GO _ _ _ _ _ (⟨none, none, _⟩ :: _) _; refine go_st (hk := ?_)) | (show GO _ _ _ _ _ (⟨_, some _, _⟩ :: _) _; first | refine go_in (hk := ?_) | refine go_out (hk := ?_) | refine go_void (hk := ?_)) | (show GK _ _ _ _ (blockK _ _ _); refine gk_past rfl ?_) | (show GC _ _ _ _ _ (.cond _ _ _) _; first | refine gc_yes (h1 := ?_) | refine gc_no (h1 := ?_))))
      exact gk_ret rfl fun H' hH => ⟨by
        simp only [tupleOf]; congr 1
        exact (decide_eq_false fun h2 => h1 (by have := h2.2.1; omega)).symm, hH.leE⟩

def dotT (xs ys : List Int) : Nat → Int
  | 0 => 0
  | i + 1 => dotT xs ys i + nth xs i * nth ys i

def devT (xs : List Int) (c : Int) : Nat → Int
  | 0 => 0
  | i + 1 => devT xs c i + (nth xs i - c) * (nth xs i - c)

theorem devT_eq (xs : List Int) (c : Int) : ∀ k, devT xs c k = dotT xs xs k - 2 * c * sumI xs k + k * (c * c)
  | 0 => by simp [devT, dotT, sumI]
  | k + 1 => by
    have := devT_eq xs c k
    simp only [devT, dotT, sumI, Int.natCast_add, Int.natCast_one]
    grind

theorem sq_nonneg (a : Int) : 0 ≤ a * a := by
  rcases Int.le_total 0 a with h | h
  · exact Int.mul_nonneg h h
  · have := Int.mul_nonneg (a := -a) (b := -a) (by omega) (by omega)
    rw [Int.neg_mul_neg] at this; exact this

theorem sq_pos {a : Int} (h : a ≠ 0) : 1 ≤ a * a := by
  rcases Int.lt_or_le 0 a with h1 | h1
  · have := Int.mul_pos h1 h1; omega
  · have := Int.mul_pos (a := -a) (b := -a) (by omega) (by omega)
    rw [Int.neg_mul_neg] at this; omega

theorem devT_nonneg (xs : List Int) (c : Int) : ∀ k, 0 ≤ devT xs c k
  | 0 => Int.le_refl _
  | k + 1 => by
    have h1 := devT_nonneg xs c k
    have h2 := sq_nonneg (nth xs k - c)
    rw [devT]; omega

theorem devT_ge {xs : List Int} {c : Int} {i : Nat} : ∀ {k}, i < k → (nth xs i - c) * (nth xs i - c) ≤ devT xs c k
  | 0, h => by omega
  | k + 1, h => by
    have h1 := devT_nonneg xs c k
    have h2 := sq_nonneg (nth xs k - c)
    rw [devT]
    rcases Nat.lt_or_ge i k with h3 | h3
    · have := devT_ge (xs := xs) (c := c) h3; omega
    · rw [show i = k by omega]; omega

def delT (xs : List Int) (k : Nat) : Int := k * dotT xs xs k - sumI xs k * sumI xs k

theorem delT_succ (xs : List Int) (k : Nat) : delT xs (k + 1) = delT xs k + devT xs (nth xs k) k := by
  rw [devT_eq]
  simp only [delT, dotT, sumI, Int.natCast_add, Int.natCast_one]
  grind

theorem delT_nonneg (xs : List Int) : ∀ k, 0 ≤ delT xs k
  | 0 => by simp [delT, sumI]
  | k + 1 => by
    have h1 := delT_nonneg xs k
    have h2 := devT_nonneg xs (nth xs k) k
    rw [delT_succ]; omega

theorem delT_pos {xs : List Int} : ∀ {k i}, i < k → nth xs i ≠ nth xs 0 → 1 ≤ delT xs k
  | 0, i, h, _ => by omega
  | k + 1, i, h, hn => by
    have h1 := delT_nonneg xs k
    have h2 := devT_nonneg xs (nth xs k) k
    rw [delT_succ]
    rcases Nat.lt_or_ge i k with h3 | h3
    · have := delT_pos h3 hn; omega
    · have hi : i = k := by omega
      subst hi
      have h0 : 0 < i := by
        rcases Nat.eq_zero_or_pos i with h4 | h4
        · subst h4; exact absurd rfl hn
        · exact h4
      have h4 := devT_ge (xs := xs) (c := nth xs i) h0
      have h5 := sq_pos (a := nth xs 0 - nth xs i) (by omega)
      omega

theorem dotT_le {xs ys : List Int} {n : Nat} (h : PtsT xs ys n) : ∀ {k}, k ≤ n → -(144 * (k : Int)) ≤ dotT xs ys k ∧ dotT xs ys k ≤ 144 * (k : Int)
  | 0, _ => by simp [dotT]
  | k + 1, hk => by
    have h1 := dotT_le h (k := k) (by omega)
    obtain ⟨_, h2, h3⟩ := h k (by omega)
    have h4 := absmul h2.1 h2.2 h3.1 h3.2
    rw [dotT]; omega

theorem PtsT.xx {xs ys : List Int} {n : Nat} (h : PtsT xs ys n) (hx : n ≤ xs.length) : PtsT xs xs n := fun i hi => ⟨by omega, (h i hi).2.1, (h i hi).2.1⟩

/-- the line of least squares -/
def sqA (xs ys : List Int) : Rat := (((xs.length : Int) * dotT xs ys xs.length - sumL xs * sumL ys : Int) : Rat) / ((delT xs xs.length : Int) : Rat)

def sqB (xs ys : List Int) : Rat := ((sumL ys : Int) : Rat) / (((xs.length : Int)) : Rat) - sqA xs ys * (((sumL xs : Int) : Rat) / (((xs.length : Int)) : Rat))

structure SqF (xs ys : List Int) : Prop where
  n : 2 ≤ xs.length ∧ xs.length ≤ 7
  sx : -84 ≤ sumL xs ∧ sumL xs ≤ 84
  sy : -84 ≤ sumL ys ∧ sumL ys ≤ 84
  del : 1 ≤ delT xs xs.length ∧ delT xs xs.length ≤ 14112
  up : -14112 ≤ (xs.length : Int) * dotT xs ys xs.length - sumL xs * sumL ys ∧ (xs.length : Int) * dotT xs ys xs.length - sumL xs * sumL ys ≤ 14112
  p1 : -7056 ≤ (xs.length : Int) * dotT xs ys xs.length ∧ (xs.length : Int) * dotT xs ys xs.length ≤ 7056
  p2 : -7056 ≤ (xs.length : Int) * dotT xs xs xs.length ∧ (xs.length : Int) * dotT xs xs xs.length ≤ 7056
  p3 : -7056 ≤ sumL xs * sumL ys ∧ sumL xs * sumL ys ≤ 7056
  p4 : -7056 ≤ sumL xs * sumL xs ∧ sumL xs * sumL xs ≤ 7056
  e : delT xs xs.length = (xs.length : Int) * dotT xs xs xs.length - sumL xs * sumL xs
  line : LineOk (sqA xs ys) (sqB xs ys) (delT xs xs.length * (xs.length : Int)) 98784 2376108

theorem Pts.bd {xs ys : List Int} (h : Pts xs ys) : Bd 12 xs ∧ Bd 12 ys := by
  refine ⟨fun x hx => ?_, fun y hy => ?_⟩
  · obtain ⟨i, hi, rfl⟩ := List.mem_iff_getElem.1 hx
    have := (h.1 i hi).2.1
    rwa [nth_of hi] at this
  · obtain ⟨i, hi, rfl⟩ := List.mem_iff_getElem.1 hy
    have := (h.1 i (by have := h.2.1; omega)).2.2
    rwa [nth_of hi] at this

theorem Cloud.sq {xs ys : List Int} (h : Cloud xs ys) : SqF xs ys := by
  obtain ⟨hp, i, hi1, hi2, hi3⟩ := h
  obtain ⟨b1, b2⟩ := hp.bd
  have hlen := hp.2.1
  have h7 := hp.2.2
  have sx := sumL_le b1 (by omega)
  have sy := sumL_le b2 (by omega)
  have hd := delT_pos hi2 hi3
  have d1 := dotT_le hp.1 (Nat.le_refl _)
  have d2 := dotT_le (hp.1.xx (Nat.le_refl _)) (Nat.le_refl _)
  have m1 := absmul (k := (xs.length : Int)) (l := dotT xs ys xs.length) (A := 7) (B := 1008) (by omega) (by omega) (by omega) (by omega)
  have m2 := absmul (k := (xs.length : Int)) (l := dotT xs xs xs.length) (A := 7) (B := 1008) (by omega) (by omega) (by omega) (by omega)
  have m3 := absmul (k := sumL xs) (l := sumL ys) (A := 84) (B := 84) (by omega) (by omega) (by omega) (by omega)
  have m4 := absmul (k := sumL xs) (l := sumL xs) (A := 84) (B := 84) (by omega) (by omega) (by omega) (by omega)
  have e : delT xs xs.length = (xs.length : Int) * dotT xs xs xs.length - sumL xs * sumL xs := by rw [delT, sumI_all]
  have hup : -14112 ≤ (xs.length : Int) * dotT xs ys xs.length - sumL xs * sumL ys ∧ (xs.length : Int) * dotT xs ys xs.length - sumL xs * sumL ys ≤ 14112 := by omega
  have hdel : 1 ≤ delT xs xs.length ∧ delT xs xs.length ≤ 14112 := by omega
  have m5 := mulbd (a := delT xs xs.length) (b := (xs.length : Int)) (A := 14112) (B := 7) (by omega) (by omega) (by omega) (by omega)
  have f1 : FD (sqA xs ys) (delT xs xs.length) 14112 := FD.div (by omega) hup
  have f2 : FD (((sumL ys : Int) : Rat) / (((xs.length : Int)) : Rat)) (xs.length : Int) 84 := FD.div (by omega) (by omega)
  have f3 : FD (((sumL xs : Int) : Rat) / (((xs.length : Int)) : Rat)) (xs.length : Int) 84 := FD.div (by omega) (by omega)
  refine ⟨by omega, by omega, by omega, hdel, hup, by omega, by omega, by omega, by omega, e, ⟨(f1.lift (m := (xs.length : Int)) (by omega)).mono (by omega), ?_, by omega, by omega, by omega⟩⟩
  have f4 := ((f2.lift (m := delT xs xs.length) (by omega)).to (Int.mul_comm _ _)).sub (f1.mul f3)
  exact f4.mono (by omega)

abbrev fr0 : AV := .agg [.int .i64 0, .int .i64 0]

abbrev cel0 (i : Nat) : Ch := ⟨.cell, .ptr i 0, 2, 1, [.int .i64 0, .int .i64 0]⟩

abbrev celF (i : Nat) (q : Rat) : Ch := ⟨.cell, .ptr i 0, 2, 1, [.int .i64 q.num, .int .i64 (q.den : Int)]⟩

theorem lawDivisor_ok {H : Heap} {a b : Int} (ha : -4611686018427387904 ≤ a ∧ a ≤ 4611686018427387904) (hb : -4611686018427387904 ≤ b ∧ b ≤ 4611686018427387904) :
    ACalls Try.prog fn_laws_divisor [.int .i64 a, .int .i64 b] H fun r H' => r = .int .i64 (Int.gcd a b : Nat) ∧ H' = H := by
  refine ACalls.val ?_ rfl
  refine code_laws_divisor.go [] trivial (by simp) ?_
  unfold mc_laws_divisor
  (repeat (first | with_reducible (first | refine go_nil ?_ | refine gk_seq ?_ | refine gc_seq ?_ | refine gc_reg ?_ | refine gc_skip ?_ | refine gk_block ?_ | refine gc_block ?_ | refine gc_exit ?_ | refine gc_ret ?_ | refine gk_seqret ?_ | refine gk_seqexit ?_ | refine gk_blockret ?_ | refine gk_out ?_ | refine gk_loopret ?_ | refine gk_loopexit ?_) | (show GO _ _ _ _ _ (⟨some _, none, _⟩ :: _) _; first | refine go_op (hk := ?_) | (refine go_nw (hk := ?_); intro u; try simp only [List.length_cons, List.length_nil, List.nil_append, Nat.zero_add]) | (refine go_np (hk := ?_); intro id)) | (show GO _ _ _ _ _ (⟨none, none, _⟩ :: _) _; refine go_st (hk := ?_)) | (show GO _ _ _ _ _ (⟨_, some _, _⟩ :: _) _; first | refine go_in (hk := ?_) | refine go_out (hk := ?_) | refine go_void (hk := ?_)) | (show GK _ _ _ _ (blockK _ _ _); refine gk_past rfl ?_) | (show GC _ _ _ _ _ (.cond _ _ _) _; first | refine gc_yes (h1 := ?_) | refine gc_no (h1 := ?_))))
  refine gc_loop (γ := Int × Int) (fun t => [(0, .int .i64 t.1), (1, .int .i64 t.2)]) (fun _ => []) (fun t => Int.gcd t.1 t.2 = Int.gcd a b ∧ (-4611686018427387904 ≤ t.1 ∧ t.1 ≤ 4611686018427387904) ∧ (-4611686018427387904 ≤ t.2 ∧ t.2 ≤ 4611686018427387904)) (fun t => t.2.natAbs) (a, b) ⟨rfl, ha, hb⟩ (hb := ?_)
  rintro ⟨x, y⟩ ⟨h1, h2, h3⟩ I ν m hk
  simp only at h1 h2 h3 hk ⊢
  (repeat (first | with_reducible (first | refine go_nil ?_ | refine gk_seq ?_ | refine gc_seq ?_ | refine gc_reg ?_ | refine gc_skip ?_ | refine gk_block ?_ | refine gc_block ?_ | refine gc_exit ?_ | refine gc_ret ?_ | refine gk_seqret ?_ | refine gk_seqexit ?_ | refine gk_blockret ?_ | refine gk_out ?_ | refine gk_loopret ?_ | refine gk_loopexit ?_) | (show GO _ _ _ _ _ (⟨some _, none, _⟩ :: _) _; first | refine go_op (hk := ?_) | (refine go_nw (hk := ?_); intro u; try simp only [List.length_cons, List.length_nil, List.nil_append, Nat.zero_add]) | (refine go_np (hk := ?_); intro id)) | (show GO _ _ _ _ _ (⟨none, none, _⟩ :: _) _; refine go_st (hk := ?_)) | (show GO _ _ _ _ _ (⟨_, some _, _⟩ :: _) _; first | refine go_in (hk := ?_) | refine go_out (hk := ?_) | refine go_void (hk := ?_)) | (show GK _ _ _ _ (blockK _ _ _); refine gk_past rfl ?_) | (show GC _ _ _ _ _ (.cond _ _ _) _; first | refine gc_yes (h1 := ?_) | refine gc_no (h1 := ?_))))
  refine gc_cond rfl (fun h => ?_) (fun h => ?_)
  · have h4 : (x.tmod y).natAbs < y.natAbs := by
      rw [Int.natAbs_tmod]; exact Nat.mod_lt _ (by omega)
    (repeat (first | with_reducible (first | refine go_nil ?_ | refine gk_seq ?_ | refine gc_seq ?_ | refine gc_reg ?_ | refine gc_skip ?_ | refine gk_block ?_ | refine gc_block ?_ | refine gc_exit ?_ | refine gc_ret ?_ | refine gk_seqret ?_ | refine gk_seqexit ?_ | refine gk_blockret ?_ | refine gk_out ?_ | refine gk_loopret ?_ | refine gk_loopexit ?_) | (show GO _ _ _ _ _ (⟨some _, none, _⟩ :: _) _; first | refine go_op (hk := ?_) | (refine go_nw (hk := ?_); intro u; try simp only [List.length_cons, List.length_nil, List.nil_append, Nat.zero_add]) | (refine go_np (hk := ?_); intro id)) | (show GO _ _ _ _ _ (⟨none, none, _⟩ :: _) _; refine go_st (hk := ?_)) | (show GO _ _ _ _ _ (⟨_, some _, _⟩ :: _) _; first | refine go_in (hk := ?_) | refine go_out (hk := ?_) | refine go_void (hk := ?_)) | (show GK _ _ _ _ (blockK _ _ _); refine gk_past rfl ?_) | (show GC _ _ _ _ _ (.cond _ _ _) _; first | refine gc_yes (h1 := ?_) | refine gc_no (h1 := ?_))))
    refine go_is rfl (stp_rem rfl rfl h) ?_
    (repeat (first | with_reducible (first | refine go_nil ?_ | refine gk_seq ?_ | refine gc_seq ?_ | refine gc_reg ?_ | refine gc_skip ?_ | refine gk_block ?_ | refine gc_block ?_ | refine gc_exit ?_ | refine gc_ret ?_ | refine gk_seqret ?_ | refine gk_seqexit ?_ | refine gk_blockret ?_ | refine gk_out ?_ | refine gk_loopret ?_ | refine gk_loopexit ?_) | (show GO _ _ _ _ _ (⟨some _, none, _⟩ :: _) _; first | refine go_op (hk := ?_) | (refine go_nw (hk := ?_); intro u; try simp only [List.length_cons, List.length_nil, List.nil_append, Nat.zero_add]) | (refine go_np (hk := ?_); intro id)) | (show GO _ _ _ _ _ (⟨none, none, _⟩ :: _) _; refine go_st (hk := ?_)) | (show GO _ _ _ _ _ (⟨_, some _, _⟩ :: _) _; first | refine go_in (hk := ?_) | refine go_out (hk := ?_) | refine go_void (hk := ?_)) | (show GK _ _ _ _ (blockK _ _ _); refine gk_past rfl ?_) | (show GC _ _ _ _ _ (.cond _ _ _) _; first | refine gc_yes (h1 := ?_) | refine gc_no (h1 := ?_))))
    exact gk_next (hk (y, x.tmod y) ⟨by rw [tmod_gcd]; exact h1, h3, by simp only; omega⟩ h4)
  · have hy : y = 0 := by omega
    subst hy
    have e : (Int.gcd a b : Nat) = x.natAbs := by rw [← h1]; simp [Int.gcd]
    (repeat (first | with_reducible (first | refine go_nil ?_ | refine gk_seq ?_ | refine gc_seq ?_ | refine gc_reg ?_ | refine gc_skip ?_ | refine gk_block ?_ | refine gc_block ?_ | refine gc_exit ?_ | refine gc_ret ?_ | refine gk_seqret ?_ | refine gk_seqexit ?_ | refine gk_blockret ?_ | refine gk_out ?_ | refine gk_loopret ?_ | refine gk_loopexit ?_) | (show GO _ _ _ _ _ (⟨some _, none, _⟩ :: _) _; first | refine go_op (hk := ?_) | (refine go_nw (hk := ?_); intro u; try simp only [List.length_cons, List.length_nil, List.nil_append, Nat.zero_add]) | (refine go_np (hk := ?_); intro id)) | (show GO _ _ _ _ _ (⟨none, none, _⟩ :: _) _; refine go_st (hk := ?_)) | (show GO _ _ _ _ _ (⟨_, some _, _⟩ :: _) _; first | refine go_in (hk := ?_) | refine go_out (hk := ?_) | refine go_void (hk := ?_)) | (show GK _ _ _ _ (blockK _ _ _); refine gk_past rfl ?_) | (show GC _ _ _ _ _ (.cond _ _ _) _; first | refine gc_yes (h1 := ?_) | refine gc_no (h1 := ?_))))
    exact gk_ret rfl fun H' hH => ⟨by rw [e]; show AV.int _ (max x (-x)) = _; congr 1; omega, hH.leE⟩

theorem lawFrac_ok {H : Heap} {a b : Int} (ha : -4611686018427387904 ≤ a ∧ a ≤ 4611686018427387904) (hb : -4611686018427387904 ≤ b ∧ b ≤ 4611686018427387904) (h0 : b ≠ 0) :
    ACalls Try.prog fn_laws_fracOf [.int .i64 a, .int .i64 b] H fun r H' => r = frV ((a : Rat) / (b : Rat)) ∧ H' = H := by
  refine ACalls.val ?_ rfl
  have hg : (0 : Int) < (Int.gcd a b : Nat) := by
    have := Int.gcd_pos_of_ne_zero_right a h0
    omega
  obtain ⟨e1, e2⟩ := div_num (a := a) h0
  refine code_laws_fracOf.go [] trivial (by simp) ?_
  unfold mc_laws_fracOf
  (repeat (first | with_reducible (first | refine go_nil ?_ | refine gk_seq ?_ | refine gc_seq ?_ | refine gc_reg ?_ | refine gc_skip ?_ | refine gk_block ?_ | refine gc_block ?_ | refine gc_exit ?_ | refine gc_ret ?_ | refine gk_seqret ?_ | refine gk_seqexit ?_ | refine gk_blockret ?_ | refine gk_out ?_ | refine gk_loopret ?_ | refine gk_loopexit ?_ | refine gd_nil ?_) | (with_reducible first | (refine gc_drw (h := ?_); intro _) | (refine gc_drw2 (h := ?_); intro _)) | (show GO _ _ _ _ _ (⟨some _, none, _⟩ :: _) _; first | refine go_op (hk := ?_) | (refine go_nw (hk := ?_); intro u; try simp only [List.length_cons, List.length_nil, List.nil_append, Nat.zero_add]) | (refine go_np (hk := ?_); intro id)) | (show GD _ _ _ _ _ _ _ (⟨some _, none, _⟩ :: _) _; first | refine gd_op (hk := ?_) | (refine gd_nw (hk := ?_); intro u; try simp only [List.length_cons, List.length_nil, List.nil_append, Nat.zero_add])) | (show GD2 _ _ _ _ _ _ _ _ _ _ _ _ _ _; first | refine gd2_nil rfl ?_ | refine gd2_op (hk := ?_) | (refine gd2_nw (hk := ?_); intro u; try simp only [List.length_cons, List.length_nil, List.nil_append, Nat.zero_add]) | refine gd2_l (hk := ?_) | refine gd2_lp (hk := ?_) | (refine gd2_newp (hk := ?_); intro id) | refine gd2_st (hk := ?_) | (refine gd2_bsl rfl rfl ?_; intro u; try simp only [List.length_cons, List.length_nil, List.nil_append, Nat.zero_add]) | (refine gd2_a (hk := ?_); intro u; try simp only [List.length_cons, List.length_nil, List.nil_append, Nat.zero_add])) | (show GO _ _ _ _ _ (⟨none, none, _⟩ :: _) _; refine go_st (hk := ?_)) | (show GD _ _ _ _ _ _ _ (⟨none, none, _⟩ :: _) _; refine gd_st (hk := ?_)) | (show GO _ _ _ _ _ (⟨_, some _, _⟩ :: _) _; first | refine go_in (hk := ?_) | refine go_out (hk := ?_) | refine go_void (hk := ?_)) | (show GK _ _ _ _ (blockK _ _ _); refine gk_past rfl ?_) | (show GC _ _ _ _ _ (.cond _ _ _) _; first | refine gc_yes (h1 := ?_) | refine gc_no (h1 := ?_))))
  refine gc_cond rfl (fun h => ?_) (fun h => ?_)
  · have eg : Int.gcd (-a) (-b) = Int.gcd a b := by rw [Int.gcd_neg, Int.neg_gcd]
    have d1 := tdiv_in (a := -a) (g := (Int.gcd a b : Nat)) (B := 4611686018427387904) (by omega)
    have d2 := tdiv_in (a := -b) (g := (Int.gcd a b : Nat)) (B := 4611686018427387904) (by omega)
    rw [show b.sign = -1 from Int.sign_eq_neg_one_of_neg h] at e1
    rw [show max b (-b) = -b by omega] at e2
    rw [show (-1 : Int) * a = -a by omega] at e1
    (repeat (first | with_reducible (first | refine go_nil ?_ | refine gk_seq ?_ | refine gc_seq ?_ | refine gc_reg ?_ | refine gc_skip ?_ | refine gk_block ?_ | refine gc_block ?_ | refine gc_exit ?_ | refine gc_ret ?_ | refine gk_seqret ?_ | refine gk_seqexit ?_ | refine gk_blockret ?_ | refine gk_out ?_ | refine gk_loopret ?_ | refine gk_loopexit ?_ | refine gd_nil ?_) | (with_reducible first | (refine gc_drw (h := ?_); intro _) | (refine gc_drw2 (h := ?_); intro _)) | (show GO _ _ _ _ _ (⟨some _, none, _⟩ :: _) _; first | refine go_op (hk := ?_) | (refine go_nw (hk := ?_); intro u; try simp only [List.length_cons, List.length_nil, List.nil_append, Nat.zero_add]) | (refine go_np (hk := ?_); intro id)) | (show GD _ _ _ _ _ _ _ (⟨some _, none, _⟩ :: _) _; first | refine gd_op (hk := ?_) | (refine gd_nw (hk := ?_); intro u; try simp only [List.length_cons, List.length_nil, List.nil_append, Nat.zero_add])) | (show GD2 _ _ _ _ _ _ _ _ _ _ _ _ _ _; first | refine gd2_nil rfl ?_ | refine gd2_op (hk := ?_) | (refine gd2_nw (hk := ?_); intro u; try simp only [List.length_cons, List.length_nil, List.nil_append, Nat.zero_add]) | refine gd2_l (hk := ?_) | refine gd2_lp (hk := ?_) | (refine gd2_newp (hk := ?_); intro id) | refine gd2_st (hk := ?_) | (refine gd2_bsl rfl rfl ?_; intro u; try simp only [List.length_cons, List.length_nil, List.nil_append, Nat.zero_add]) | (refine gd2_a (hk := ?_); intro u; try simp only [List.length_cons, List.length_nil, List.nil_append, Nat.zero_add])) | (show GO _ _ _ _ _ (⟨none, none, _⟩ :: _) _; refine go_st (hk := ?_)) | (show GD _ _ _ _ _ _ _ (⟨none, none, _⟩ :: _) _; refine gd_st (hk := ?_)) | (show GO _ _ _ _ _ (⟨_, some _, _⟩ :: _) _; first | refine go_in (hk := ?_) | refine go_out (hk := ?_) | refine go_void (hk := ?_)) | (show GK _ _ _ _ (blockK _ _ _); refine gk_past rfl ?_) | (show GC _ _ _ _ _ (.cond _ _ _) _; first | refine gc_yes (h1 := ?_) | refine gc_no (h1 := ?_))))
    refine go_callp rfl code_laws_divisor.callable (fun H hH => lawDivisor_ok (by omega) (by omega)) ?_
    rw [eg]
    (repeat (first | with_reducible (first | refine go_nil ?_ | refine gk_seq ?_ | refine gc_seq ?_ | refine gc_reg ?_ | refine gc_skip ?_ | refine gk_block ?_ | refine gc_block ?_ | refine gc_exit ?_ | refine gc_ret ?_ | refine gk_seqret ?_ | refine gk_seqexit ?_ | refine gk_blockret ?_ | refine gk_out ?_ | refine gk_loopret ?_ | refine gk_loopexit ?_ | refine gd_nil ?_) | (with_reducible first | (refine gc_drw (h := ?_); intro _) | (refine gc_drw2 (h := ?_); intro _)) | (show GO _ _ _ _ _ (⟨some _, none, _⟩ :: _) _; first | refine go_op (hk := ?_) | (refine go_nw (hk := ?_); intro u; try simp only [List.length_cons, List.length_nil, List.nil_append, Nat.zero_add]) | (refine go_np (hk := ?_); intro id)) | (show GD _ _ _ _ _ _ _ (⟨some _, none, _⟩ :: _) _; first | refine gd_op (hk := ?_) | (refine gd_nw (hk := ?_); intro u; try simp only [List.length_cons, List.length_nil, List.nil_append, Nat.zero_add])) | (show GD2 _ _ _ _ _ _ _ _ _ _ _ _ _ _; first | refine gd2_nil rfl ?_ | refine gd2_op (hk := ?_) | (refine gd2_nw (hk := ?_); intro u; try simp only [List.length_cons, List.length_nil, List.nil_append, Nat.zero_add]) | refine gd2_l (hk := ?_) | refine gd2_lp (hk := ?_) | (refine gd2_newp (hk := ?_); intro id) | refine gd2_st (hk := ?_) | (refine gd2_bsl rfl rfl ?_; intro u; try simp only [List.length_cons, List.length_nil, List.nil_append, Nat.zero_add]) | (refine gd2_a (hk := ?_); intro u; try simp only [List.length_cons, List.length_nil, List.nil_append, Nat.zero_add])) | (show GO _ _ _ _ _ (⟨none, none, _⟩ :: _) _; refine go_st (hk := ?_)) | (show GD _ _ _ _ _ _ _ (⟨none, none, _⟩ :: _) _; refine gd_st (hk := ?_)) | (show GO _ _ _ _ _ (⟨_, some _, _⟩ :: _) _; first | refine go_in (hk := ?_) | refine go_out (hk := ?_) | refine go_void (hk := ?_)) | (show GK _ _ _ _ (blockK _ _ _); refine gk_past rfl ?_) | (show GC _ _ _ _ _ (.cond _ _ _) _; first | refine gc_yes (h1 := ?_) | refine gc_no (h1 := ?_))))
    refine gd_is rfl (stp_quo (a := -a) (b := ((Int.gcd a b : Nat) : Int)) (by exact rfl) (by exact rfl) (by omega) (by omega)) ?_
    (repeat (first | with_reducible (first | refine go_nil ?_ | refine gk_seq ?_ | refine gc_seq ?_ | refine gc_reg ?_ | refine gc_skip ?_ | refine gk_block ?_ | refine gc_block ?_ | refine gc_exit ?_ | refine gc_ret ?_ | refine gk_seqret ?_ | refine gk_seqexit ?_ | refine gk_blockret ?_ | refine gk_out ?_ | refine gk_loopret ?_ | refine gk_loopexit ?_ | refine gd_nil ?_) | (with_reducible first | (refine gc_drw (h := ?_); intro _) | (refine gc_drw2 (h := ?_); intro _)) | (show GO _ _ _ _ _ (⟨some _, none, _⟩ :: _) _; first | refine go_op (hk := ?_) | (refine go_nw (hk := ?_); intro u; try simp only [List.length_cons, List.length_nil, List.nil_append, Nat.zero_add]) | (refine go_np (hk := ?_); intro id)) | (show GD _ _ _ _ _ _ _ (⟨some _, none, _⟩ :: _) _; first | refine gd_op (hk := ?_) | (refine gd_nw (hk := ?_); intro u; try simp only [List.length_cons, List.length_nil, List.nil_append, Nat.zero_add])) | (show GD2 _ _ _ _ _ _ _ _ _ _ _ _ _ _; first | refine gd2_nil rfl ?_ | refine gd2_op (hk := ?_) | (refine gd2_nw (hk := ?_); intro u; try simp only [List.length_cons, List.length_nil, List.nil_append, Nat.zero_add]) | refine gd2_l (hk := ?_) | refine gd2_lp (hk := ?_) | (refine gd2_newp (hk := ?_); intro id) | refine gd2_st (hk := ?_) | (refine gd2_bsl rfl rfl ?_; intro u; try simp only [List.length_cons, List.length_nil, List.nil_append, Nat.zero_add]) | (refine gd2_a (hk := ?_); intro u; try simp only [List.length_cons, List.length_nil, List.nil_append, Nat.zero_add])) | (show GO _ _ _ _ _ (⟨none, none, _⟩ :: _) _; refine go_st (hk := ?_)) | (show GD _ _ _ _ _ _ _ (⟨none, none, _⟩ :: _) _; refine gd_st (hk := ?_)) | (show GO _ _ _ _ _ (⟨_, some _, _⟩ :: _) _; first | refine go_in (hk := ?_) | refine go_out (hk := ?_) | refine go_void (hk := ?_)) | (show GK _ _ _ _ (blockK _ _ _); refine gk_past rfl ?_) | (show GC _ _ _ _ _ (.cond _ _ _) _; first | refine gc_yes (h1 := ?_) | refine gc_no (h1 := ?_))))
    exact gk_retc rfl (by exact Sel.auto) rfl rfl fun H' hH => ⟨by rw [frV, e1, e2]; rfl, hH.leE⟩
  · have d1 := tdiv_in (a := a) (g := (Int.gcd a b : Nat)) (B := 4611686018427387904) (by omega)
    have d2 := tdiv_in (a := b) (g := (Int.gcd a b : Nat)) (B := 4611686018427387904) (by omega)
    rw [show b.sign = 1 from Int.sign_eq_one_of_pos (by omega)] at e1
    rw [show max b (-b) = b by omega] at e2
    rw [show (1 : Int) * a = a by omega] at e1
    (repeat (first | with_reducible (first | refine go_nil ?_ | refine gk_seq ?_ | refine gc_seq ?_ | refine gc_reg ?_ | refine gc_skip ?_ | refine gk_block ?_ | refine gc_block ?_ | refine gc_exit ?_ | refine gc_ret ?_ | refine gk_seqret ?_ | refine gk_seqexit ?_ | refine gk_blockret ?_ | refine gk_out ?_ | refine gk_loopret ?_ | refine gk_loopexit ?_ | refine gd_nil ?_) | (with_reducible first | (refine gc_drw (h := ?_); intro _) | (refine gc_drw2 (h := ?_); intro _)) | (show GO _ _ _ _ _ (⟨some _, none, _⟩ :: _) _; first | refine go_op (hk := ?_) | (refine go_nw (hk := ?_); intro u; try simp only [List.length_cons, List.length_nil, List.nil_append, Nat.zero_add]) | (refine go_np (hk := ?_); intro id)) | (show GD _ _ _ _ _ _ _ (⟨some _, none, _⟩ :: _) _; first | refine gd_op (hk := ?_) | (refine gd_nw (hk := ?_); intro u; try simp only [List.length_cons, List.length_nil, List.nil_append, Nat.zero_add])) | (show GD2 _ _ _ _ _ _ _ _ _ _ _ _ _ _; first | refine gd2_nil rfl ?_ | refine gd2_op (hk := ?_) | (refine gd2_nw (hk := ?_); intro u; try simp only [List.length_cons, List.length_nil, List.nil_append, Nat.zero_add]) | refine gd2_l (hk := ?_) | refine gd2_lp (hk := ?_) | (refine gd2_newp (hk := ?_); intro id) | refine gd2_st (hk := ?_) | (refine gd2_bsl rfl rfl ?_; intro u; try simp only [List.length_cons, List.length_nil, List.nil_append, Nat.zero_add]) | (refine gd2_a (hk := ?_); intro u; try simp only [List.length_cons, List.length_nil, List.nil_append, Nat.zero_add])) | (show GO _ _ _ _ _ (⟨none, none, _⟩ :: _) _; refine go_st (hk := ?_)) | (show GD _ _ _ _ _ _ _ (⟨none, none, _⟩ :: _) _; refine gd_st (hk := ?_)) | (show GO _ _ _ _ _ (⟨_, some _, _⟩ :: _) _; first | refine go_in (hk := ?_) | refine go_out (hk := ?_) | refine go_void (hk := ?_)) | (show GK _ _ _ _ (blockK _ _ _); refine gk_past rfl ?_) | (show GC _ _ _ _ _ (.cond _ _ _) _; first | refine gc_yes (h1 := ?_) | refine gc_no (h1 := ?_))))
    refine go_callp rfl code_laws_divisor.callable (fun H hH => lawDivisor_ok (by omega) (by omega)) ?_
    (repeat (first | with_reducible (first | refine go_nil ?_ | refine gk_seq ?_ | refine gc_seq ?_ | refine gc_reg ?_ | refine gc_skip ?_ | refine gk_block ?_ | refine gc_block ?_ | refine gc_exit ?_ | refine gc_ret ?_ | refine gk_seqret ?_ | refine gk_seqexit ?_ | refine gk_blockret ?_ | refine gk_out ?_ | refine gk_loopret ?_ | refine gk_loopexit ?_ | refine gd_nil ?_) | (with_reducible first | (refine gc_drw (h := ?_); intro _) | (refine gc_drw2 (h := ?_); intro _)) | (show GO _ _ _ _ _ (⟨some _, none, _⟩ :: _) _; first | refine go_op (hk := ?_) | (refine go_nw (hk := ?_); intro u; try simp only [List.length_cons, List.length_nil, List.nil_append, Nat.zero_add]) | (refine go_np (hk := ?_); intro id)) | (show GD _ _ _ _ _ _ _ (⟨some _, none, _⟩ :: _) _; first | refine gd_op (hk := ?_) | (refine gd_nw (hk := ?_); intro u; try simp only [List.length_cons, List.length_nil, List.nil_append, Nat.zero_add])) | (show GD2 _ _ _ _ _ _ _ _ _ _ _ _ _ _; first | refine gd2_nil rfl ?_ | refine gd2_op (hk := ?_) | (refine gd2_nw (hk := ?_); intro u; try simp only [List.length_cons, List.length_nil, List.nil_append, Nat.zero_add]) | refine gd2_l (hk := ?_) | refine gd2_lp (hk := ?_) | (refine gd2_newp (hk := ?_); intro id) | refine gd2_st (hk := ?_) | (refine gd2_bsl rfl rfl ?_; intro u; try simp only [List.length_cons, List.length_nil, List.nil_append, Nat.zero_add]) | (refine gd2_a (hk := ?_); intro u; try simp only [List.length_cons, List.length_nil, List.nil_append, Nat.zero_add])) | (show GO _ _ _ _ _ (⟨none, none, _⟩ :: _) _; refine go_st (hk := ?_)) | (show GD _ _ _ _ _ _ _ (⟨none, none, _⟩ :: _) _; refine gd_st (hk := ?_)) | (show GO _ _ _ _ _ (⟨_, some _, _⟩ :: _) _; first | refine go_in (hk := ?_) | refine go_out (hk := ?_) | refine go_void (hk := ?_)) | (show GK _ _ _ _ (blockK _ _ _); refine gk_past rfl ?_) | (show GC _ _ _ _ _ (.cond _ _ _) _; first | refine gc_yes (h1 := ?_) | refine gc_no (h1 := ?_))))
    refine gd_is rfl (stp_quo (a := a) (b := ((Int.gcd a b : Nat) : Int)) (by exact rfl) (by exact rfl) (by omega) (by omega)) ?_
    (repeat (first | with_reducible (first | refine go_nil ?_ | refine gk_seq ?_ | refine gc_seq ?_ | refine gc_reg ?_ | refine gc_skip ?_ | refine gk_block ?_ | refine gc_block ?_ | refine gc_exit ?_ | refine gc_ret ?_ | refine gk_seqret ?_ | refine gk_seqexit ?_ | refine gk_blockret ?_ | refine gk_out ?_ | refine gk_loopret ?_ | refine gk_loopexit ?_ | refine gd_nil ?_) | (with_reducible first | (refine gc_drw (h := ?_); intro _) | (refine gc_drw2 (h := ?_); intro _)) | (show GO _ _ _ _ _ (⟨some _, none, _⟩ :: _) _; first | refine go_op (hk := ?_) | (refine go_nw (hk := ?_); intro u; try simp only [List.length_cons, List.length_nil, List.nil_append, Nat.zero_add]) | (refine go_np (hk := ?_); intro id)) | (show GD _ _ _ _ _ _ _ (⟨some _, none, _⟩ :: _) _; first | refine gd_op (hk := ?_) | (refine gd_nw (hk := ?_); intro u; try simp only [List.length_cons, List.length_nil, List.nil_append, Nat.zero_add])) | (show GD2 _ _ _ _ _ _ _ _ _ _ _ _ _ _; first | refine gd2_nil rfl ?_ | refine gd2_op (hk := ?_) | (refine gd2_nw (hk := ?_); intro u; try simp only [List.length_cons, List.length_nil, List.nil_append, Nat.zero_add]) | refine gd2_l (hk := ?_) | refine gd2_lp (hk := ?_) | (refine gd2_newp (hk := ?_); intro id) | refine gd2_st (hk := ?_) | (refine gd2_bsl rfl rfl ?_; intro u; try simp only [List.length_cons, List.length_nil, List.nil_append, Nat.zero_add]) | (refine gd2_a (hk := ?_); intro u; try simp only [List.length_cons, List.length_nil, List.nil_append, Nat.zero_add])) | (show GO _ _ _ _ _ (⟨none, none, _⟩ :: _) _; refine go_st (hk := ?_)) | (show GD _ _ _ _ _ _ _ (⟨none, none, _⟩ :: _) _; refine gd_st (hk := ?_)) | (show GO _ _ _ _ _ (⟨_, some _, _⟩ :: _) _; first | refine go_in (hk := ?_) | refine go_out (hk := ?_) | refine go_void (hk := ?_)) | (show GK _ _ _ _ (blockK _ _ _); refine gk_past rfl ?_) | (show GC _ _ _ _ _ (.cond _ _ _) _; first | refine gc_yes (h1 := ?_) | refine gc_no (h1 := ?_))))
    exact gk_retc rfl (by exact Sel.auto) rfl rfl fun H' hH => ⟨by rw [frV, e1, e2]; rfl, hH.leE⟩

theorem dFracL_ok (H : Heap) : FamOk Try.prog H fn_laws_fracOf dFrac := dFrac_fam code_laws_fracOf.callable (fun h => lawFrac_ok h.1 h.2.1 h.2.2) H

def frC (q : Rat) : List AV := [.int .i64 q.num, .int .i64 (q.den : Int)]

def frs : List Rat → List AV
  | [] => []
  | q :: L => frC q ++ frs L

theorem frs_app : ∀ L M : List Rat, frs (L ++ M) = frs L ++ frs M
  | [], M => rfl
  | q :: L, M => by rw [List.cons_append, frs, frs, frs_app L M, List.append_assoc]

theorem frs_one : ∀ L : List Rat, (frs L).all AV.one = true
  | [] => rfl
  | q :: L => by rw [frs, List.all_append, frs_one L]; rfl

theorem frs_take : ∀ (L : List Rat) (k : Nat), (frs L).take (k * 2) = frs (L.take k)
  | [], k => by simp [frs]
  | q :: L, 0 => by simp [frs]
  | q :: L, k + 1 => by
    rw [List.take_succ_cons, frs, frs, show (k + 1) * 2 = (frC q).length + k * 2 by simp [frC]; omega, List.take_length_add_append, frs_take L k]

theorem frs_drop : ∀ (L : List Rat) (k : Nat), (frs L).drop (k * 2) = frs (L.drop k)
  | [], k => by simp [frs]
  | q :: L, 0 => by simp
  | q :: L, k + 1 => by
    rw [List.drop_succ_cons, frs, show (k + 1) * 2 = (frC q).length + k * 2 by simp [frC]; omega, List.drop_length_add_append, frs_drop L k]

def nthR (L : List Rat) (i : Nat) : Rat := L.getD i 0

theorem nthR_of {L : List Rat} {i : Nat} (h : i < L.length) : nthR L i = L[i] := by
  unfold nthR
  rw [List.getD_eq_getElem?_getD, List.getElem?_eq_getElem h]; rfl

theorem frs_at {L : List Rat} {i : Nat} (h : i < L.length) : ((frs L).drop (i * 2)).take 2 = frC (nthR L i) := by
  have h1 := frs_take (L.drop i) 1
  rw [Nat.one_mul] at h1
  rw [frs_drop, h1, nthR_of h, List.drop_eq_getElem_cons h, List.take_succ_cons]
  simp [frs]

theorem stp_ldF {A : Heap} {X : List Nat} {E : List (Nat × AV)} {S : Sig} {p : MX} {v : AV} {n i : Nat} {L : List Rat} (hp : evE E p = some (v.elem i)) (hh : Has S v 2 n (frs L)) (hn : n = L.length) (hi : i < L.length) : Stp A X E S (.ld p 2 true) (Is (frV (nthR L i)) S) :=
  stp_ldn hp hh (by omega) (frs_at hi) rfl

theorem stp_appF {A : Heap} {X : List Nat} {E : List (Nat × AV)} {S S0 : Sig} {v w : AV} {x y : MX} {n m' : Nat} {L M : List Rat} (hx : evE E x = some v) (hy : evE E y = some w) (hs : Sel S ⟨.rw, v, 2, n, frs L⟩ S0) (hh : Has S w 2 m' (frs M)) (hm2 : n + m' ≤ 1000000000000) :
    Stp A X E S (.app x y 2 16) (New fun u => ⟨.rw, u, 2, n + m', frs (L ++ M)⟩ :: S0) := by
  simp only [frs_app]
  exact stp_app hx hy hs hh (frs_one M) (by omega) (by omega) hm2

abbrev rwF (u : AV) (n : Nat) (L : List Rat) : Ch := ⟨.rw, u, 2, n, frs L⟩

theorem stp_slF {A : Heap} {X : List Nat} {E : List (Nat × AV)} {S S0 : Sig} {x : MX} {v : AV} {n l h : Nat} {L : List Rat} {lo hi : Option MX} (hx : evE E x = some v) (hs : Sel S ⟨.ro, v, 2, n, frs L⟩ S0) (hlo : lo = none ∧ l = 0 ∨ ∃ z, lo = some z ∧ evE E z = some (.int .i64 (l : Int))) (hhi : hi = none ∧ h = n ∨ ∃ z, hi = some z ∧ evE E z = some (.int .i64 (h : Int))) (hb : l ≤ h ∧ h ≤ n) :
    Stp A X E S (.sl x lo hi none 2) (New fun u => ⟨.ro, u, 2, h - l, frs ((L.drop l).take (h - l))⟩ :: ⟨.ro, v, 2, n, frs L⟩ :: S0) := by
  have := stp_sl (A := A) (X := X) (E := E) (S := S) (S0 := S0) hx hs hlo hhi hb
  simp only [frs_drop, frs_take] at this
  exact this

theorem gd2_freeze {P : Program} {Qt : FuncId → List AV → Option AV} {base k : Nat} {A : Heap} {X : List Nat} {E : List (Nat × AV)} {S S0 : Sig} {L O : List AV} {acc : List Fp} {prs : List (Nat × Nat)} {K : St → Prop} {l : List MI} {v : AV} {es n : Nat} {cs : List AV} (hs : Sel S ⟨.rw, v, es, n, cs⟩ S0) (h : GD2 P Qt base k A X E (⟨.ro, v, es, n, cs⟩ :: S0) L O acc prs l K) : GD2 P Qt base k A X E S L O acc prs l K :=
  ⟨fun s m c hE hS hm hL hO hc hk => h.g s m c hE (hS.sel hs).freeze hm hL hO hc hk⟩

def DifT (xs : List Int) (n : Nat) : Prop := ∀ i, i < n → ∀ k, k < i → nth xs i ≠ nth xs k

def Dif (xs : List Int) : Prop := DifT xs xs.length

noncomputable instance (xs : List Int) : Decidable (Dif xs) := Classical.propDecidable _

theorem specDifferent_ok {H : Heap} {a : AV} {xs : List Int} (ha : Ints H a xs) (hl : xs.length ≤ 1000000000) :
    ACalls Try.prog fn_spec_different [a] H fun r H' => r = .bool (decide (Dif xs)) ∧ H' = H := by
  refine ACalls.val ?_ rfl
  refine code_spec_different.go [.roI a xs.length xs] ⟨⟨rfl, ha⟩, trivial⟩ (by simp) ?_
  unfold mc_spec_different
  (repeat (first | with_reducible (first | refine go_nil ?_ | refine gk_seq ?_ | refine gc_seq ?_ | refine gc_reg ?_ | refine gc_skip ?_ | refine gk_block ?_ | refine gc_block ?_ | refine gc_exit ?_ | refine gc_ret ?_ | refine gk_seqret ?_ | refine gk_seqexit ?_ | refine gk_blockret ?_ | refine gk_out ?_ | refine gk_loopret ?_ | refine gk_loopexit ?_ | refine gq_nil ?_) | (with_reducible refine gc_drq ?_; intro _) | (show GO _ _ _ _ _ (⟨some _, none, _⟩ :: _) _; first | refine go_op (hk := ?_) | (refine go_nw (hk := ?_); intro u; try simp only [List.length_cons, List.length_nil, List.nil_append, Nat.zero_add]) | (refine go_np (hk := ?_); intro id)) | (show GQ _ _ _ _ _ _ _ (⟨some _, none, _⟩ :: _) _; first | refine gq_op (hk := ?_) | (refine gq_nw (hk := ?_); intro u; try simp only [List.length_cons, List.length_nil, List.nil_append, Nat.zero_add])) | (show GO _ _ _ _ _ (⟨none, none, _⟩ :: _) _; refine go_st (hk := ?_)) | (show GO _ _ _ _ _ (⟨_, some _, _⟩ :: _) _; first | refine go_in (hk := ?_) | refine go_out (hk := ?_) | refine go_void (hk := ?_)) | (show GQ _ _ _ _ _ _ _ (⟨_, some _, _⟩ :: _) _; first | refine gq_in (hk := ?_) | refine gq_out (hk := ?_) | refine gq_void (hk := ?_)) | (show GK _ _ _ _ (blockK _ _ _); refine gk_past rfl ?_) | (show GC _ _ _ _ _ (.cond _ _ _) _; first | refine gc_yes (h1 := ?_) | refine gc_no (h1 := ?_))))
  refine gc_loop (γ := Nat) (fun i => [(0, a), (3, .int .i64 (i : Int))]) (fun _ => [.roI a xs.length xs]) (fun i => i ≤ xs.length ∧ DifT xs i) (fun i => xs.length - i) 0 ⟨Nat.zero_le _, fun k hk => by omega⟩ (hb := ?_)
  rintro i ⟨hi, hp⟩ I ν m hk
  (repeat (first | with_reducible (first | refine go_nil ?_ | refine gk_seq ?_ | refine gc_seq ?_ | refine gc_reg ?_ | refine gc_skip ?_ | refine gk_block ?_ | refine gc_block ?_ | refine gc_exit ?_ | refine gc_ret ?_ | refine gk_seqret ?_ | refine gk_seqexit ?_ | refine gk_blockret ?_ | refine gk_out ?_ | refine gk_loopret ?_ | refine gk_loopexit ?_ | refine gq_nil ?_) | (with_reducible refine gc_drq ?_; intro _) | (show GO _ _ _ _ _ (⟨some _, none, _⟩ :: _) _; first | refine go_op (hk := ?_) | (refine go_nw (hk := ?_); intro u; try simp only [List.length_cons, List.length_nil, List.nil_append, Nat.zero_add]) | (refine go_np (hk := ?_); intro id)) | (show GQ _ _ _ _ _ _ _ (⟨some _, none, _⟩ :: _) _; first | refine gq_op (hk := ?_) | (refine gq_nw (hk := ?_); intro u; try simp only [List.length_cons, List.length_nil, List.nil_append, Nat.zero_add])) | (show GO _ _ _ _ _ (⟨none, none, _⟩ :: _) _; refine go_st (hk := ?_)) | (show GO _ _ _ _ _ (⟨_, some _, _⟩ :: _) _; first | refine go_in (hk := ?_) | refine go_out (hk := ?_) | refine go_void (hk := ?_)) | (show GQ _ _ _ _ _ _ _ (⟨_, some _, _⟩ :: _) _; first | refine gq_in (hk := ?_) | refine gq_out (hk := ?_) | refine gq_void (hk := ?_)) | (show GK _ _ _ _ (blockK _ _ _); refine gk_past rfl ?_) | (show GC _ _ _ _ _ (.cond _ _ _) _; first | refine gc_yes (h1 := ?_) | refine gc_no (h1 := ?_))))
  refine gc_cond rfl (fun h => ?_) (fun h => ?_)
  · (repeat (first | with_reducible (first | refine go_nil ?_ | refine gk_seq ?_ | refine gc_seq ?_ | refine gc_reg ?_ | refine gc_skip ?_ | refine gk_block ?_ | refine gc_block ?_ | refine gc_exit ?_ | refine gc_ret ?_ | refine gk_seqret ?_ | refine gk_seqexit ?_ | refine gk_blockret ?_ | refine gk_out ?_ | refine gk_loopret ?_ | refine gk_loopexit ?_ | refine gq_nil ?_) | (with_reducible refine gc_drq ?_; intro _) | (show GO _ _ _ _ _ (⟨some _, none, _⟩ :: _) _; first | refine go_op (hk := ?_) | (refine go_nw (hk := ?_); intro u; try simp only [List.length_cons, List.length_nil, List.nil_append, Nat.zero_add]) | (refine go_np (hk := ?_); intro id)) | (show GQ _ _ _ _ _ _ _ (⟨some _, none, _⟩ :: _) _; first | refine gq_op (hk := ?_) | (refine gq_nw (hk := ?_); intro u; try simp only [List.length_cons, List.length_nil, List.nil_append, Nat.zero_add])) | (show GO _ _ _ _ _ (⟨none, none, _⟩ :: _) _; refine go_st (hk := ?_)) | (show GO _ _ _ _ _ (⟨_, some _, _⟩ :: _) _; first | refine go_in (hk := ?_) | refine go_out (hk := ?_) | refine go_void (hk := ?_)) | (show GQ _ _ _ _ _ _ _ (⟨_, some _, _⟩ :: _) _; first | refine gq_in (hk := ?_) | refine gq_out (hk := ?_) | refine gq_void (hk := ?_)) | (show GK _ _ _ _ (blockK _ _ _); refine gk_past rfl ?_) | (show GC _ _ _ _ _ (.cond _ _ _) _; first | refine gc_yes (h1 := ?_) | refine gc_no (h1 := ?_))))
    refine gc_loop (γ := Nat) (fun k => [(0, a), (3, .int .i64 (i : Int)), (4, .int .i64 (k : Int))]) (fun _ => [.roI a xs.length xs]) (fun k => k ≤ i ∧ ∀ l, l < k → nth xs i ≠ nth xs l) (fun k => i - k) 0 ⟨Nat.zero_le _, fun k hk => by omega⟩ (hb := ?_)
    rintro k ⟨hk1, hq⟩ I2 ν2 m2 hk2
    (repeat (first | with_reducible (first | refine go_nil ?_ | refine gk_seq ?_ | refine gc_seq ?_ | refine gc_reg ?_ | refine gc_skip ?_ | refine gk_block ?_ | refine gc_block ?_ | refine gc_exit ?_ | refine gc_ret ?_ | refine gk_seqret ?_ | refine gk_seqexit ?_ | refine gk_blockret ?_ | refine gk_out ?_ | refine gk_loopret ?_ | refine gk_loopexit ?_ | refine gq_nil ?_) | (with_reducible refine gc_drq ?_; intro _) | (show GO _ _ _ _ _ (⟨some _, none, _⟩ :: _) _; first | refine go_op (hk := ?_) | (refine go_nw (hk := ?_); intro u; try simp only [List.length_cons, List.length_nil, List.nil_append, Nat.zero_add]) | (refine go_np (hk := ?_); intro id)) | (show GQ _ _ _ _ _ _ _ (⟨some _, none, _⟩ :: _) _; first | refine gq_op (hk := ?_) | (refine gq_nw (hk := ?_); intro u; try simp only [List.length_cons, List.length_nil, List.nil_append, Nat.zero_add])) | (show GO _ _ _ _ _ (⟨none, none, _⟩ :: _) _; refine go_st (hk := ?_)) | (show GO _ _ _ _ _ (⟨_, some _, _⟩ :: _) _; first | refine go_in (hk := ?_) | refine go_out (hk := ?_) | refine go_void (hk := ?_)) | (show GQ _ _ _ _ _ _ _ (⟨_, some _, _⟩ :: _) _; first | refine gq_in (hk := ?_) | refine gq_out (hk := ?_) | refine gq_void (hk := ?_)) | (show GK _ _ _ _ (blockK _ _ _); refine gk_past rfl ?_) | (show GC _ _ _ _ _ (.cond _ _ _) _; first | refine gc_yes (h1 := ?_) | refine gc_no (h1 := ?_))))
    refine gc_cond rfl (fun h2 => ?_) (fun h2 => ?_)
    · (repeat (first | with_reducible (first | refine go_nil ?_ | refine gk_seq ?_ | refine gc_seq ?_ | refine gc_reg ?_ | refine gc_skip ?_ | refine gk_block ?_ | refine gc_block ?_ | refine gc_exit ?_ | refine gc_ret ?_ | refine gk_seqret ?_ | refine gk_seqexit ?_ | refine gk_blockret ?_ | refine gk_out ?_ | refine gk_loopret ?_ | refine gk_loopexit ?_ | refine gq_nil ?_) | (with_reducible refine gc_drq ?_; intro _) | (show GO _ _ _ _ _ (⟨some _, none, _⟩ :: _) _; first | refine go_op (hk := ?_) | (refine go_nw (hk := ?_); intro u; try simp only [List.length_cons, List.length_nil, List.nil_append, Nat.zero_add]) | (refine go_np (hk := ?_); intro id)) | (show GQ _ _ _ _ _ _ _ (⟨some _, none, _⟩ :: _) _; first | refine gq_op (hk := ?_) | (refine gq_nw (hk := ?_); intro u; try simp only [List.length_cons, List.length_nil, List.nil_append, Nat.zero_add])) | (show GO _ _ _ _ _ (⟨none, none, _⟩ :: _) _; refine go_st (hk := ?_)) | (show GO _ _ _ _ _ (⟨_, some _, _⟩ :: _) _; first | refine go_in (hk := ?_) | refine go_out (hk := ?_) | refine go_void (hk := ?_)) | (show GQ _ _ _ _ _ _ _ (⟨_, some _, _⟩ :: _) _; first | refine gq_in (hk := ?_) | refine gq_out (hk := ?_) | refine gq_void (hk := ?_)) | (show GK _ _ _ _ (blockK _ _ _); refine gk_past rfl ?_) | (show GC _ _ _ _ _ (.cond _ _ _) _; first | refine gc_yes (h1 := ?_) | refine gc_no (h1 := ?_))))
      refine gc_cond rfl (fun h3 => ?_) (fun h3 => ?_)
      · (repeat (first | with_reducible (first | refine go_nil ?_ | refine gk_seq ?_ | refine gc_seq ?_ | refine gc_reg ?_ | refine gc_skip ?_ | refine gk_block ?_ | refine gc_block ?_ | refine gc_exit ?_ | refine gc_ret ?_ | refine gk_seqret ?_ | refine gk_seqexit ?_ | refine gk_blockret ?_ | refine gk_out ?_ | refine gk_loopret ?_ | refine gk_loopexit ?_ | refine gq_nil ?_) | (with_reducible refine gc_drq ?_; intro _) | (show GO _ _ _ _ _ (⟨some _, none, _⟩ :: _) _; first | refine go_op (hk := ?_) | (refine go_nw (hk := ?_); intro u; try simp only [List.length_cons, List.length_nil, List.nil_append, Nat.zero_add]) | (refine go_np (hk := ?_); intro id)) | (show GQ _ _ _ _ _ _ _ (⟨some _, none, _⟩ :: _) _; first | refine gq_op (hk := ?_) | (refine gq_nw (hk := ?_); intro u; try simp only [List.length_cons, List.length_nil, List.nil_append, Nat.zero_add])) | (show GO _ _ _ _ _ (⟨none, none, _⟩ :: _) _; refine go_st (hk := ?_)) | (show GO _ _ _ _ _ (⟨_, some _, _⟩ :: _) _; first | refine go_in (hk := ?_) | refine go_out (hk := ?_) | refine go_void (hk := ?_)) | (show GQ _ _ _ _ _ _ _ (⟨_, some _, _⟩ :: _) _; first | refine gq_in (hk := ?_) | refine gq_out (hk := ?_) | refine gq_void (hk := ?_)) | (show GK _ _ _ _ (blockK _ _ _); refine gk_past rfl ?_) | (show GC _ _ _ _ _ (.cond _ _ _) _; first | refine gc_yes (h1 := ?_) | refine gc_no (h1 := ?_))))
        exact gk_ret rfl fun H' hH => ⟨by
          have : ¬ Dif xs := fun hd => hd i (by omega) k (by omega) h3
          simp [tupleOf, this], hH.leE⟩
      (repeat (first | with_reducible (first | refine go_nil ?_ | refine gk_seq ?_ | refine gc_seq ?_ | refine gc_reg ?_ | refine gc_skip ?_ | refine gk_block ?_ | refine gc_block ?_ | refine gc_exit ?_ | refine gc_ret ?_ | refine gk_seqret ?_ | refine gk_seqexit ?_ | refine gk_blockret ?_ | refine gk_out ?_ | refine gk_loopret ?_ | refine gk_loopexit ?_ | refine gq_nil ?_) | (with_reducible refine gc_drq ?_; intro _) | (show GO _ _ _ _ _ (⟨some _, none, _⟩ :: _) _; first | refine go_op (hk := ?_) | (refine go_nw (hk := ?_); intro u; try simp only [List.length_cons, List.length_nil, List.nil_append, Nat.zero_add]) | (refine go_np (hk := ?_); intro id)) | (show GQ _ _ _ _ _ _ _ (⟨some _, none, _⟩ :: _) _; first | refine gq_op (hk := ?_) | (refine gq_nw (hk := ?_); intro u; try simp only [List.length_cons, List.length_nil, List.nil_append, Nat.zero_add])) | (show GO _ _ _ _ _ (⟨none, none, _⟩ :: _) _; refine go_st (hk := ?_)) | (show GO _ _ _ _ _ (⟨_, some _, _⟩ :: _) _; first | refine go_in (hk := ?_) | refine go_out (hk := ?_) | refine go_void (hk := ?_)) | (show GQ _ _ _ _ _ _ _ (⟨_, some _, _⟩ :: _) _; first | refine gq_in (hk := ?_) | refine gq_out (hk := ?_) | refine gq_void (hk := ?_)) | (show GK _ _ _ _ (blockK _ _ _); refine gk_past rfl ?_) | (show GC _ _ _ _ _ (.cond _ _ _) _; first | refine gc_yes (h1 := ?_) | refine gc_no (h1 := ?_))))
      refine gk_next (hk2 (k + 1) ⟨by omega, fun l h4 => ?_⟩ (by omega))
      rcases Nat.lt_or_ge l k with h5 | h5
      · exact hq l h5
      · rw [show l = k by omega]; exact h3
    · have : k = i := by omega
      subst this
      (repeat (first | with_reducible (first | refine go_nil ?_ | refine gk_seq ?_ | refine gc_seq ?_ | refine gc_reg ?_ | refine gc_skip ?_ | refine gk_block ?_ | refine gc_block ?_ | refine gc_exit ?_ | refine gc_ret ?_ | refine gk_seqret ?_ | refine gk_seqexit ?_ | refine gk_blockret ?_ | refine gk_out ?_ | refine gk_loopret ?_ | refine gk_loopexit ?_ | refine gq_nil ?_) | (with_reducible refine gc_drq ?_; intro _) | (show GO _ _ _ _ _ (⟨some _, none, _⟩ :: _) _; first | refine go_op (hk := ?_) | (refine go_nw (hk := ?_); intro u; try simp only [List.length_cons, List.length_nil, List.nil_append, Nat.zero_add]) | (refine go_np (hk := ?_); intro id)) | (show GQ _ _ _ _ _ _ _ (⟨some _, none, _⟩ :: _) _; first | refine gq_op (hk := ?_) | (refine gq_nw (hk := ?_); intro u; try simp only [List.length_cons, List.length_nil, List.nil_append, Nat.zero_add])) | (show GO _ _ _ _ _ (⟨none, none, _⟩ :: _) _; refine go_st (hk := ?_)) | (show GO _ _ _ _ _ (⟨_, some _, _⟩ :: _) _; first | refine go_in (hk := ?_) | refine go_out (hk := ?_) | refine go_void (hk := ?_)) | (show GQ _ _ _ _ _ _ _ (⟨_, some _, _⟩ :: _) _; first | refine gq_in (hk := ?_) | refine gq_out (hk := ?_) | refine gq_void (hk := ?_)) | (show GK _ _ _ _ (blockK _ _ _); refine gk_past rfl ?_) | (show GC _ _ _ _ _ (.cond _ _ _) _; first | refine gc_yes (h1 := ?_) | refine gc_no (h1 := ?_))))
      refine gk_next (hk (k + 1) ⟨by omega, fun j h4 => ?_⟩ (by omega))
      rcases Nat.lt_or_ge j k with h5 | h5
      · exact hp j h5
      · rw [show j = k by omega]; exact hq
  · have : i = xs.length := by omega
    subst this
    (repeat (first | with_reducible (first | refine go_nil ?_ | refine gk_seq ?_ | refine gc_seq ?_ | refine gc_reg ?_ | refine gc_skip ?_ | refine gk_block ?_ | refine gc_block ?_ | refine gc_exit ?_ | refine gc_ret ?_ | refine gk_seqret ?_ | refine gk_seqexit ?_ | refine gk_blockret ?_ | refine gk_out ?_ | refine gk_loopret ?_ | refine gk_loopexit ?_ | refine gq_nil ?_) | (with_reducible refine gc_drq ?_; intro _) | (show GO _ _ _ _ _ (⟨some _, none, _⟩ :: _) _; first | refine go_op (hk := ?_) | (refine go_nw (hk := ?_); intro u; try simp only [List.length_cons, List.length_nil, List.nil_append, Nat.zero_add]) | (refine go_np (hk := ?_); intro id)) | (show GQ _ _ _ _ _ _ _ (⟨some _, none, _⟩ :: _) _; first | refine gq_op (hk := ?_) | (refine gq_nw (hk := ?_); intro u; try simp only [List.length_cons, List.length_nil, List.nil_append, Nat.zero_add])) | (show GO _ _ _ _ _ (⟨none, none, _⟩ :: _) _; refine go_st (hk := ?_)) | (show GO _ _ _ _ _ (⟨_, some _, _⟩ :: _) _; first | refine go_in (hk := ?_) | refine go_out (hk := ?_) | refine go_void (hk := ?_)) | (show GQ _ _ _ _ _ _ _ (⟨_, some _, _⟩ :: _) _; first | refine gq_in (hk := ?_) | refine gq_out (hk := ?_) | refine gq_void (hk := ?_)) | (show GK _ _ _ _ (blockK _ _ _); refine gk_past rfl ?_) | (show GC _ _ _ _ _ (.cond _ _ _) _; first | refine gc_yes (h1 := ?_) | refine gc_no (h1 := ?_))))
    exact gk_ret rfl fun H' hH => ⟨by
      have : Dif xs := hp
      simp [tupleOf, this], hH.leE⟩

noncomputable def ddv (xs ys : List Int) : Nat → Nat → Rat
  | 0, i => ((nth ys i : Int) : Rat)
  | k + 1, i => (ddv xs ys k (i + 1) - ddv xs ys k i) * (((1 : Int) : Rat) / ((nth xs (i + k + 1) - nth xs i : Int) : Rat))

theorem dd_step {d d' : Rat} {w w' v v' A B δ : Int} (h1 : d * (v : Rat) = (w : Rat)) (h2 : d' * (v' : Rat) = (w' : Rat)) (hδ : δ ≠ 0) (e : v' * A = v * B) :
    ((d' - d) * (((1 : Int) : Rat) / (δ : Rat))) * ((v' * A * δ : Int) : Rat) = ((w' * A - w * B : Int) : Rat) := by
  have hd := rat_ne hδ
  have e' : (v' : Rat) * (A : Rat) = (v : Rat) * (B : Rat) := by rw [← Rat.intCast_mul, ← Rat.intCast_mul, e]
  have o : (((1 : Int) : Rat) / (δ : Rat)) * (δ : Rat) = 1 := by rw [Rat.div_mul_cancel hd]; rfl
  simp only [Rat.intCast_mul, Rat.intCast_sub]
  generalize ((1 : Int) : Rat) / (δ : Rat) = u at *
  grind

def V1 (a b : Int) : Int := b - a

def V2 (a b c : Int) : Int := (b - a) * (c - a) * (c - b)

def V3 (a b c d : Int) : Int := (b - a) * (c - a) * (c - b) * ((d - a) * (d - b) * (d - c))

def V4 (a b c d e : Int) : Int := (b - a) * (c - a) * (c - b) * ((d - a) * (d - b) * (d - c)) * ((e - a) * (e - b) * (e - c) * (e - d))

def W2 (a b c p q r : Int) : Int := p * V1 b c - q * V1 a c + r * V1 a b

def W3 (a b c d p q r s : Int) : Int := - (p * V2 b c d) + q * V2 a c d - r * V2 a b d + s * V2 a b c

def W4 (a b c d e p q r s t : Int) : Int := p * V3 b c d e - q * V3 a c d e + r * V3 a b d e - s * V3 a b c e + t * V3 a b c d

theorem w2_eq (a b c p q r : Int) : (r - q) * (b - a) - (q - p) * (c - b) = W2 a b c p q r := by unfold W2 V1; grind

theorem w3_eq (a b c d p q r s : Int) : W2 b c d q r s * ((b - a) * (c - a)) - W2 a b c p q r * ((d - b) * (d - c)) = W3 a b c d p q r s := by unfold W3 W2 V2 V1; grind

theorem w4_eq (a b c d e p q r s t : Int) : W3 b c d e q r s t * ((b - a) * (c - a) * (d - a)) - W3 a b c d p q r s * ((e - b) * (e - c) * (e - d)) = W4 a b c d e p q r s t := by unfold W4 W3 V3 V2; grind

theorem k4_all : ∀ p, p < 25 → ∀ q, q < 25 - p → ∀ r, r < 25 - p - q → p * (p + q) * q * ((p + q + r) * (q + r) * r) ≤ 3398640 := by decide +kernel

theorem v3_sorted {a b c d : Int} (h1 : a ≤ b) (h2 : b ≤ c) (h3 : c ≤ d) (h4 : d - a ≤ 24) : 0 ≤ V3 a b c d ∧ V3 a b c d ≤ 3398640 := by
  obtain ⟨p, rfl⟩ : ∃ p : Nat, b = a + p := ⟨(b - a).toNat, by omega⟩
  obtain ⟨q, rfl⟩ : ∃ q : Nat, c = a + p + q := ⟨(c - (a + p)).toNat, by omega⟩
  obtain ⟨r, rfl⟩ : ∃ r : Nat, d = a + p + q + r := ⟨(d - (a + p + q)).toNat, by omega⟩
  have h := k4_all p (by omega) q (by omega) r (by omega)
  have e : V3 a (a + p) (a + p + q) (a + p + q + r) = ((p * (p + q) * q * ((p + q + r) * (q + r) * r) : Nat) : Int) := by
    unfold V3
    simp only [Int.natCast_mul, Int.natCast_add]
    grind
  rw [e]; omega

def VIn (a b c d : Int) : Prop := -3398640 ≤ V3 a b c d ∧ V3 a b c d ≤ 3398640

theorem vin_1 {a b c d : Int} (h : VIn b a c d) : VIn a b c d := by
  have e : V3 a b c d = - V3 b a c d := by unfold V3; grind
  unfold VIn at *; omega

theorem vin_2 {a b c d : Int} (h : VIn a c b d) : VIn a b c d := by
  have e : V3 a b c d = - V3 a c b d := by unfold V3; grind
  unfold VIn at *; omega

theorem vin_3 {a b c d : Int} (h : VIn a b d c) : VIn a b c d := by
  have e : V3 a b c d = - V3 a b d c := by unfold V3; grind
  unfold VIn at *; omega

theorem vin_all {a b c d : Int} (ha : -12 ≤ a ∧ a ≤ 12) (hb : -12 ≤ b ∧ b ≤ 12) (hc : -12 ≤ c ∧ c ≤ 12) (hd : -12 ≤ d ∧ d ≤ 12) : VIn a b c d := by
  have s : ∀ {a b c d : Int}, a ≤ b → b ≤ c → c ≤ d → d - a ≤ 24 → VIn a b c d := fun h1 h2 h3 h4 => by
    have := v3_sorted h1 h2 h3 h4
    unfold VIn; omega
  have i1 : ∀ {a b c d : Int}, -12 ≤ a ∧ a ≤ 12 → -12 ≤ b ∧ b ≤ 12 → -12 ≤ c ∧ c ≤ 12 → -12 ≤ d ∧ d ≤ 12 → b ≤ c → c ≤ d → VIn a b c d := by
    intro a b c d ha hb hc hd h1 h2
    rcases Int.le_total a b with h | h
    · exact s h h1 h2 (by omega)
    · refine vin_1 ?_
      rcases Int.le_total a c with h' | h'
      · exact s h h' h2 (by omega)
      · refine vin_2 ?_
        rcases Int.le_total a d with h'' | h''
        · exact s h1 h' h'' (by omega)
        · exact vin_3 (s h1 h2 h'' (by omega))
  have i2 : ∀ {a b c d : Int}, -12 ≤ a ∧ a ≤ 12 → -12 ≤ b ∧ b ≤ 12 → -12 ≤ c ∧ c ≤ 12 → -12 ≤ d ∧ d ≤ 12 → c ≤ d → VIn a b c d := by
    intro a b c d ha hb hc hd h1
    rcases Int.le_total b c with h | h
    · exact i1 ha hb hc hd h h1
    · refine vin_2 ?_
      rcases Int.le_total b d with h' | h'
      · exact i1 ha hc hb hd h h'
      · exact vin_3 (i1 ha hc hd hb h1 h')
  rcases Int.le_total c d with h | h
  · exact i2 ha hb hc hd h
  · exact vin_3 (i2 ha hb hd hc h)

theorem FD.ofW {q : Rat} {V W B : Int} (h : q * (V : Rat) = (W : Rat)) (hV : V ≠ 0) (hW : -B ≤ W ∧ W ≤ B) : FD q (max V (-V)) B := by
  rcases Int.lt_or_lt_of_ne hV with h1 | h1
  · rw [show max V (-V) = -V by omega]
    refine ⟨by omega, -W, ?_, by omega, by omega⟩
    rw [Rat.intCast_neg, Rat.intCast_neg, ← h]; grind
  · rw [show max V (-V) = V by omega]
    exact ⟨h1, W, h, hW.1, hW.2⟩

theorem dv1 {xs ys : List Int} {i : Nat} (h : nth xs (i + 1) - nth xs i ≠ 0) : ddv xs ys 1 i * (V1 (nth xs i) (nth xs (i + 1)) : Rat) = ((nth ys (i + 1) - nth ys i : Int) : Rat) := by
  have h1 : ((nth ys i : Int) : Rat) * ((1 : Int) : Rat) = ((nth ys i : Int) : Rat) := Rat.mul_one _
  have h2 : ((nth ys (i + 1) : Int) : Rat) * ((1 : Int) : Rat) = ((nth ys (i + 1) : Int) : Rat) := Rat.mul_one _
  have h3 := dd_step (A := 1) (B := 1) h1 h2 h rfl
  rw [show (1 : Int) * 1 * (nth xs (i + 1) - nth xs i) = V1 (nth xs i) (nth xs (i + 1)) by unfold V1; omega, Int.mul_one, Int.mul_one] at h3
  exact h3

theorem dv2 {xs ys : List Int} {i : Nat} (h1 : nth xs (i + 1) - nth xs i ≠ 0) (h2 : nth xs (i + 2) - nth xs (i + 1) ≠ 0) (h : nth xs (i + 2) - nth xs i ≠ 0) :
    ddv xs ys 2 i * (V2 (nth xs i) (nth xs (i + 1)) (nth xs (i + 2)) : Rat) = (W2 (nth xs i) (nth xs (i + 1)) (nth xs (i + 2)) (nth ys i) (nth ys (i + 1)) (nth ys (i + 2)) : Rat) := by
  have h3 := dd_step (A := nth xs (i + 1) - nth xs i) (B := nth xs (i + 2) - nth xs (i + 1)) (dv1 (ys := ys) h1) (dv1 (ys := ys) (i := i + 1) h2) h (by unfold V1; grind)
  rw [w2_eq, show V1 (nth xs (i + 1)) (nth xs (i + 1 + 1)) * (nth xs (i + 1) - nth xs i) * (nth xs (i + 2) - nth xs i) = V2 (nth xs i) (nth xs (i + 1)) (nth xs (i + 2)) by unfold V1 V2; grind] at h3
  exact h3

theorem dv3 {xs ys : List Int} {i : Nat} (h1 : nth xs (i + 1) - nth xs i ≠ 0) (h2 : nth xs (i + 2) - nth xs (i + 1) ≠ 0) (h3 : nth xs (i + 3) - nth xs (i + 2) ≠ 0) (h4 : nth xs (i + 2) - nth xs i ≠ 0) (h5 : nth xs (i + 3) - nth xs (i + 1) ≠ 0) (h : nth xs (i + 3) - nth xs i ≠ 0) :
    ddv xs ys 3 i * (V3 (nth xs i) (nth xs (i + 1)) (nth xs (i + 2)) (nth xs (i + 3)) : Rat) = (W3 (nth xs i) (nth xs (i + 1)) (nth xs (i + 2)) (nth xs (i + 3)) (nth ys i) (nth ys (i + 1)) (nth ys (i + 2)) (nth ys (i + 3)) : Rat) := by
  have h6 := dd_step (A := (nth xs (i + 1) - nth xs i) * (nth xs (i + 2) - nth xs i)) (B := (nth xs (i + 3) - nth xs (i + 1)) * (nth xs (i + 3) - nth xs (i + 2))) (dv2 (ys := ys) h1 h2 h4) (dv2 (ys := ys) (i := i + 1) h2 h3 h5) h (by unfold V2; grind)
  rw [w3_eq, show V2 (nth xs (i + 1)) (nth xs (i + 1 + 1)) (nth xs (i + 1 + 2)) * ((nth xs (i + 1) - nth xs i) * (nth xs (i + 2) - nth xs i)) * (nth xs (i + 3) - nth xs i) = V3 (nth xs i) (nth xs (i + 1)) (nth xs (i + 2)) (nth xs (i + 3)) by unfold V3 V2; grind] at h6
  exact h6

theorem dv4 {xs ys : List Int} {i : Nat} (h1 : nth xs (i + 1) - nth xs i ≠ 0) (h2 : nth xs (i + 2) - nth xs (i + 1) ≠ 0) (h3 : nth xs (i + 3) - nth xs (i + 2) ≠ 0) (h7 : nth xs (i + 4) - nth xs (i + 3) ≠ 0) (h4 : nth xs (i + 2) - nth xs i ≠ 0) (h5 : nth xs (i + 3) - nth xs (i + 1) ≠ 0) (h8 : nth xs (i + 4) - nth xs (i + 2) ≠ 0) (h9 : nth xs (i + 3) - nth xs i ≠ 0) (h10 : nth xs (i + 4) - nth xs (i + 1) ≠ 0) (h : nth xs (i + 4) - nth xs i ≠ 0) :
    ddv xs ys 4 i * (V4 (nth xs i) (nth xs (i + 1)) (nth xs (i + 2)) (nth xs (i + 3)) (nth xs (i + 4)) : Rat) = (W4 (nth xs i) (nth xs (i + 1)) (nth xs (i + 2)) (nth xs (i + 3)) (nth xs (i + 4)) (nth ys i) (nth ys (i + 1)) (nth ys (i + 2)) (nth ys (i + 3)) (nth ys (i + 4)) : Rat) := by
  have h6 := dd_step (A := (nth xs (i + 1) - nth xs i) * (nth xs (i + 2) - nth xs i) * (nth xs (i + 3) - nth xs i)) (B := (nth xs (i + 4) - nth xs (i + 1)) * (nth xs (i + 4) - nth xs (i + 2)) * (nth xs (i + 4) - nth xs (i + 3))) (dv3 (ys := ys) h1 h2 h3 h4 h5 h9) (dv3 (ys := ys) (i := i + 1) h2 h3 h7 h5 h8 h10) h (by unfold V3; grind)
  rw [w4_eq, show V3 (nth xs (i + 1)) (nth xs (i + 1 + 1)) (nth xs (i + 1 + 2)) (nth xs (i + 1 + 3)) * ((nth xs (i + 1) - nth xs i) * (nth xs (i + 2) - nth xs i) * (nth xs (i + 3) - nth xs i)) * (nth xs (i + 4) - nth xs i) = V4 (nth xs i) (nth xs (i + 1)) (nth xs (i + 2)) (nth xs (i + 3)) (nth xs (i + 4)) by unfold V4 V3; grind] at h6
  exact h6

def ddN : Nat → Int
  | 0 => 12 | 1 => 24 | 2 => 864 | 3 => 663552 | _ => 203918400

def ddV : Nat → Int
  | 0 => 1 | 1 => 24 | 2 => 13824 | 3 => 3398640 | _ => 1127587184640

theorem Dif.ne {xs : List Int} (hd : Dif xs) {i j : Nat} (h : i < j) (hj : j < xs.length) : nth xs j - nth xs i ≠ 0 := by
  have := hd j hj i h
  omega

theorem absmul3 {k l A B : Int} (h : -A ≤ k ∧ k ≤ A) (h' : -B ≤ l ∧ l ≤ B) : -(A * B) ≤ k * l ∧ k * l ≤ A * B := absmul h.1 h.2 h'.1 h'.2

theorem v2_in {a b c : Int} (ha : -12 ≤ a ∧ a ≤ 12) (hb : -12 ≤ b ∧ b ≤ 12) (hc : -12 ≤ c ∧ c ≤ 12) : -13824 ≤ V2 a b c ∧ V2 a b c ≤ 13824 := by
  have h1 := absmul3 (A := 24) (B := 24) (k := b - a) (l := c - a) (by omega) (by omega)
  have h2 := absmul3 (A := 576) (B := 24) (k := (b - a) * (c - a)) (l := c - b) (by omega) (by omega)
  unfold V2; omega

theorem w2_in {a b c p q r : Int} (ha : -12 ≤ a ∧ a ≤ 12) (hb : -12 ≤ b ∧ b ≤ 12) (hc : -12 ≤ c ∧ c ≤ 12) (hp : -12 ≤ p ∧ p ≤ 12) (hq : -12 ≤ q ∧ q ≤ 12) (hr : -12 ≤ r ∧ r ≤ 12) : -864 ≤ W2 a b c p q r ∧ W2 a b c p q r ≤ 864 := by
  have h1 := absmul3 (B := 24) (l := V1 b c) hp (by unfold V1; omega)
  have h2 := absmul3 (B := 24) (l := V1 a c) hq (by unfold V1; omega)
  have h3 := absmul3 (B := 24) (l := V1 a b) hr (by unfold V1; omega)
  unfold W2; omega

theorem w3_in {a b c d p q r s : Int} (ha : -12 ≤ a ∧ a ≤ 12) (hb : -12 ≤ b ∧ b ≤ 12) (hc : -12 ≤ c ∧ c ≤ 12) (hd : -12 ≤ d ∧ d ≤ 12) (hp : -12 ≤ p ∧ p ≤ 12) (hq : -12 ≤ q ∧ q ≤ 12) (hr : -12 ≤ r ∧ r ≤ 12) (hs : -12 ≤ s ∧ s ≤ 12) : -663552 ≤ W3 a b c d p q r s ∧ W3 a b c d p q r s ≤ 663552 := by
  have h1 := absmul3 hp (v2_in hb hc hd)
  have h2 := absmul3 hq (v2_in ha hc hd)
  have h3 := absmul3 hr (v2_in ha hb hd)
  have h4 := absmul3 hs (v2_in ha hb hc)
  unfold W3; omega

theorem w4_in {a b c d e p q r s t : Int} (ha : -12 ≤ a ∧ a ≤ 12) (hb : -12 ≤ b ∧ b ≤ 12) (hc : -12 ≤ c ∧ c ≤ 12) (hd : -12 ≤ d ∧ d ≤ 12) (he : -12 ≤ e ∧ e ≤ 12) (hp : -12 ≤ p ∧ p ≤ 12) (hq : -12 ≤ q ∧ q ≤ 12) (hr : -12 ≤ r ∧ r ≤ 12) (hs : -12 ≤ s ∧ s ≤ 12) (ht : -12 ≤ t ∧ t ≤ 12) : -203918400 ≤ W4 a b c d e p q r s t ∧ W4 a b c d e p q r s t ≤ 203918400 := by
  have h1 := absmul3 hp (vin_all hb hc hd he)
  have h2 := absmul3 hq (vin_all ha hc hd he)
  have h3 := absmul3 hr (vin_all ha hb hd he)
  have h4 := absmul3 hs (vin_all ha hb hc he)
  have h5 := absmul3 ht (vin_all ha hb hc hd)
  unfold W4; omega

theorem v4_in {a b c d e : Int} (ha : -12 ≤ a ∧ a ≤ 12) (hb : -12 ≤ b ∧ b ≤ 12) (hc : -12 ≤ c ∧ c ≤ 12) (hd : -12 ≤ d ∧ d ≤ 12) (he : -12 ≤ e ∧ e ≤ 12) : -1127587184640 ≤ V4 a b c d e ∧ V4 a b c d e ≤ 1127587184640 := by
  have h1 := absmul3 (A := 24) (B := 24) (k := e - a) (l := e - b) (by omega) (by omega)
  have h2 := absmul3 (A := 576) (B := 24) (k := (e - a) * (e - b)) (l := e - c) (by omega) (by omega)
  have h3 := absmul3 (A := 13824) (B := 24) (k := (e - a) * (e - b) * (e - c)) (l := e - d) (by omega) (by omega)
  have h4 := absmul3 (B := 331776) (l := (e - a) * (e - b) * (e - c) * (e - d)) (vin_all ha hb hc hd) (by omega)
  have e1 : V4 a b c d e = V3 a b c d * ((e - a) * (e - b) * (e - c) * (e - d)) := rfl
  omega

theorem dd_fd {xs ys : List Int} (hp : Pts xs ys) (hd : Dif xs) {k i : Nat} (hk : k ≤ 4) (hi : i + k < xs.length) : ∃ D, FD (ddv xs ys k i) D (ddN k) ∧ D ≤ ddV k := by
  obtain ⟨b1, b2⟩ := hp.bd
  have bx : ∀ j, -12 ≤ nth xs j ∧ nth xs j ≤ 12 := fun j => b1.nth (by omega) j
  have bY : ∀ j, -12 ≤ nth ys j ∧ nth ys j ≤ 12 := fun j => b2.nth (by omega) j
  have ne : ∀ {i j : Nat}, i < j → j < xs.length → nth xs j - nth xs i ≠ 0 := fun h h' => hd.ne h h'
  rcases k with _ | _ | _ | _ | _ | k
  · exact ⟨1, FD.int (bY i), by decide⟩
  · have x0 := bx i; have x1 := bx (i + 1); have y0 := bY i; have y1 := bY (i + 1)
    have n1 := ne (i := i) (j := i + 1) (by omega) (by omega)
    exact ⟨_, FD.ofW (dv1 (ys := ys) n1) (by unfold V1; omega) (by simp only [ddN]; omega), by unfold V1; simp only [ddV]; omega⟩
  · have v := v2_in (bx i) (bx (i + 1)) (bx (i + 2))
    have n1 := ne (i := i) (j := i + 1) (by omega) (by omega)
    have n2 := ne (i := i + 1) (j := i + 2) (by omega) (by omega)
    have n3 := ne (i := i) (j := i + 2) (by omega) (by omega)
    exact ⟨_, FD.ofW (dv2 (ys := ys) n1 n2 n3) (Int.mul_ne_zero (Int.mul_ne_zero n1 n3) n2) (w2_in (bx _) (bx _) (bx _) (bY _) (bY _) (bY _)), by simp only [ddV]; omega⟩
  · have v := vin_all (bx i) (bx (i + 1)) (bx (i + 2)) (bx (i + 3))
    have n1 := ne (i := i) (j := i + 1) (by omega) (by omega)
    have n2 := ne (i := i + 1) (j := i + 2) (by omega) (by omega)
    have n3 := ne (i := i) (j := i + 2) (by omega) (by omega)
    have n4 := ne (i := i + 2) (j := i + 3) (by omega) (by omega)
    have n5 := ne (i := i + 1) (j := i + 3) (by omega) (by omega)
    have n6 := ne (i := i) (j := i + 3) (by omega) (by omega)
    exact ⟨_, FD.ofW (dv3 (ys := ys) n1 n2 n4 n3 n5 n6) (Int.mul_ne_zero (Int.mul_ne_zero (Int.mul_ne_zero n1 n3) n2) (Int.mul_ne_zero (Int.mul_ne_zero n6 n5) n4)) (w3_in (bx _) (bx _) (bx _) (bx _) (bY _) (bY _) (bY _) (bY _)), by simp only [ddV]; unfold VIn at v; omega⟩
  · have v := v4_in (bx i) (bx (i + 1)) (bx (i + 2)) (bx (i + 3)) (bx (i + 4))
    have n1 := ne (i := i) (j := i + 1) (by omega) (by omega)
    have n2 := ne (i := i + 1) (j := i + 2) (by omega) (by omega)
    have n3 := ne (i := i) (j := i + 2) (by omega) (by omega)
    have n4 := ne (i := i + 2) (j := i + 3) (by omega) (by omega)
    have n5 := ne (i := i + 1) (j := i + 3) (by omega) (by omega)
    have n6 := ne (i := i) (j := i + 3) (by omega) (by omega)
    have n7 := ne (i := i + 3) (j := i + 4) (by omega) (by omega)
    have n8 := ne (i := i + 2) (j := i + 4) (by omega) (by omega)
    have n9 := ne (i := i + 1) (j := i + 4) (by omega) (by omega)
    have n10 := ne (i := i) (j := i + 4) (by omega) (by omega)
    exact ⟨_, FD.ofW (dv4 (ys := ys) n1 n2 n4 n7 n3 n5 n8 n6 n9 n10) (Int.mul_ne_zero (Int.mul_ne_zero (Int.mul_ne_zero (Int.mul_ne_zero n1 n3) n2) (Int.mul_ne_zero (Int.mul_ne_zero n6 n5) n4)) (Int.mul_ne_zero (Int.mul_ne_zero (Int.mul_ne_zero n10 n9) n8) n7)) (w4_in (bx _) (bx _) (bx _) (bx _) (bx _) (bY _) (bY _) (bY _) (bY _) (bY _)), by simp only [ddV]; omega⟩
  · omega

noncomputable def nwL (xs ys : List Int) (k : Nat) : Nat → List Rat
  | 0 => []
  | m + 1 => nwL xs ys k m ++ [ddv xs ys k m]

noncomputable def fcL (xs ys : List Int) : Nat → List Rat
  | 0 => []
  | k + 1 => fcL xs ys k ++ [ddv xs ys k 0]

theorem nwL_len (xs ys : List Int) (k : Nat) : ∀ m, (nwL xs ys k m).length = m
  | 0 => rfl
  | m + 1 => by rw [nwL, List.length_append, nwL_len xs ys k m]; rfl

theorem fcL_len (xs ys : List Int) : ∀ m, (fcL xs ys m).length = m
  | 0 => rfl
  | m + 1 => by rw [fcL, List.length_append, fcL_len xs ys m]; rfl

theorem nthR_app {L M : List Rat} {i : Nat} (h : i < L.length) : nthR (L ++ M) i = nthR L i := by
  unfold nthR
  rw [List.getD_eq_getElem?_getD, List.getD_eq_getElem?_getD, List.getElem?_append_left h]

theorem nthR_last {L : List Rat} {q : Rat} : nthR (L ++ [q]) L.length = q := by
  unfold nthR
  rw [List.getD_eq_getElem?_getD, List.getElem?_append_right (Nat.le_refl _)]; simp

theorem nwL_at (xs ys : List Int) (k : Nat) : ∀ m {i : Nat}, i < m → nthR (nwL xs ys k m) i = ddv xs ys k i
  | 0, i, h => by omega
  | m + 1, i, h => by
    rw [nwL]
    rcases Nat.lt_or_ge i m with h1 | h1
    · rw [nthR_app (by rw [nwL_len]; exact h1), nwL_at xs ys k m h1]
    · have : i = m := by omega
      subst this
      have e := nthR_last (L := nwL xs ys k i) (q := ddv xs ys k i)
      rwa [nwL_len] at e

theorem fcL_at (xs ys : List Int) : ∀ m {i : Nat}, i < m → nthR (fcL xs ys m) i = ddv xs ys i 0
  | 0, i, h => by omega
  | m + 1, i, h => by
    rw [fcL]
    rcases Nat.lt_or_ge i m with h1 | h1
    · rw [nthR_app (by rw [fcL_len]; exact h1), fcL_at xs ys m h1]
    · have : i = m := by omega
      subst this
      have e := nthR_last (L := fcL xs ys i) (q := ddv xs ys i 0)
      rwa [fcL_len] at e

theorem ddN_le : ∀ {k : Nat}, k ≤ 3 → (0 ≤ ddN k ∧ ddN k ≤ 663552) ∧ ddV k ≤ 3398640
  | 0, _ => by decide
  | 1, _ => by decide
  | 2, _ => by decide
  | 3, _ => by decide
  | k + 4, h => by omega

theorem dd_fits {p q : Rat} {D E N δ : Int} (fE : FD p E N) (fD : FD q D N) (hN : 0 ≤ N ∧ N ≤ 663552) (hD : D ≤ 3398640) (hE : E ≤ 3398640) (nz : δ ≠ 0) (hδ : -24 ≤ δ ∧ δ ≤ 24) : FitA p q ∧ FitM (p - q) (((1 : Int) : Rat) / (δ : Rat)) := by
  have d0 := fD.pos.1
  have e0 := fE.pos.1
  have m1 := mulbd (a := N) (b := D) (A := 663552) (B := 3398640) (by omega) (by omega) (by omega) hD
  have m2 := mulbd (a := N) (b := E) (A := 663552) (B := 3398640) (by omega) (by omega) (by omega) hE
  have m3 := mulbd (a := E) (b := D) (A := 3398640) (B := 3398640) (by omega) (by omega) hE hD
  refine ⟨fitA_of fE fD (by omega) (by omega) (by omega), ?_⟩
  have s := (fE.lift d0).sub ((fD.lift e0).to (Int.mul_comm D E))
  have t := FD.divn (n := 1) (B := 1) nz (by omega)
  have m4 := mulbd (a := E * D) (b := max δ (-δ)) (A := 3398640 * 3398640) (B := 24) (Int.mul_nonneg (by omega) (by omega)) (by omega) (by omega) (by omega)
  exact fitM_of s t (by omega) (by omega)

end Go.Rx.Try
