import Derived.Test.YtjbcebljimdpfaaFnStepUpD3
namespace Go.Rx.Try
open Go.Proofs
set_option maxRecDepth 100000
set_option maxHeartbeats 8000000
set_option linter.unusedSimpArgs false
set_option linter.unusedVariables false

theorem implFoundAt_ok {H : Heap} {a : AV} {xs : List Int} {lev : Int} (ha : Ints H a xs) (hl : xs.length ≤ 1048576) : ACalls Try.prog fn_impl_FoundAt [a, .int .i64 lev] H fun r H' => OwnI H H' r (fdX xs lev) ∧ Le H H' := by
  refine code_impl_FoundAt.go [.roI a xs.length xs] ⟨⟨rfl, ha⟩, trivial⟩ (by simp) ?_
  unfold mc_impl_FoundAt
  (repeat (first | with_reducible (first | refine go_nil ?_ | refine gk_seq ?_ | refine gc_seq ?_ | refine gc_reg ?_ | refine gc_skip ?_ | refine gk_block ?_ | refine gc_block ?_ | refine gc_exit ?_ | refine gc_ret ?_ | refine gk_seqret ?_ | refine gk_seqexit ?_ | refine gk_blockret ?_ | refine gk_out ?_ | refine gk_loopret ?_ | refine gk_loopexit ?_) | (show GO _ _ _ _ _ (⟨some _, none, .call _ _⟩ :: _) _; first | (show GO _ _ _ _ _ (⟨some _, none, .call fn_impl_ValidOdds _⟩ :: _) _; refine go_callp rfl code_impl_ValidOdds.callable (fun H hH => implValidOdds_ok (hH.ints (by exact Has.auto)) (by omega)) ?_) | (show GO _ _ _ _ _ (⟨some _, none, .call fn_impl_validOdd _⟩ :: _) _; refine go_callp rfl code_impl_validOdd.callable (fun H hH => implValidOdd_ok) ?_)) | (show GO _ _ _ _ _ (⟨some _, none, _⟩ :: _) _; first | refine go_op (hk := ?_) | (refine go_nw (hk := ?_); intro u; try simp only [List.length_cons, List.length_nil, List.nil_append, Nat.zero_add]) | (refine go_np (hk := ?_); intro id)) | (show GO _ _ _ _ _ (⟨none, none, _⟩ :: _) _; refine go_st (hk := ?_)) | (show GO _ _ _ _ _ (⟨_, some _, _⟩ :: _) _; first | refine go_in (hk := ?_) | refine go_out (hk := ?_) | refine go_void (hk := ?_)) | (show GK _ _ _ _ (blockK _ _ _); refine gk_past rfl ?_) | (show GC _ _ _ _ _ (.cond _ _ _) _; first | refine gc_yes (h1 := ?_) | refine gc_no (h1 := ?_))))
  refine go_split 11 rfl (fun h1 => ?_) (fun h1 => ?_)
  · (repeat (first | with_reducible (first | refine go_nil ?_ | refine gk_seq ?_ | refine gc_seq ?_ | refine gc_reg ?_ | refine gc_skip ?_ | refine gk_block ?_ | refine gc_block ?_ | refine gc_exit ?_ | refine gc_ret ?_ | refine gk_seqret ?_ | refine gk_seqexit ?_ | refine gk_blockret ?_ | refine gk_out ?_ | refine gk_loopret ?_ | refine gk_loopexit ?_) | (show GO _ _ _ _ _ (⟨some _, none, .call _ _⟩ :: _) _; first | (show GO _ _ _ _ _ (⟨some _, none, .call fn_impl_ValidOdds _⟩ :: _) _; refine go_callp rfl code_impl_ValidOdds.callable (fun H hH => implValidOdds_ok (hH.ints (by exact Has.auto)) (by omega)) ?_) | (show GO _ _ _ _ _ (⟨some _, none, .call fn_impl_validOdd _⟩ :: _) _; refine go_callp rfl code_impl_validOdd.callable (fun H hH => implValidOdd_ok) ?_)) | (show GO _ _ _ _ _ (⟨some _, none, _⟩ :: _) _; first | refine go_op (hk := ?_) | (refine go_nw (hk := ?_); intro u; try simp only [List.length_cons, List.length_nil, List.nil_append, Nat.zero_add]) | (refine go_np (hk := ?_); intro id)) | (show GO _ _ _ _ _ (⟨none, none, _⟩ :: _) _; refine go_st (hk := ?_)) | (show GO _ _ _ _ _ (⟨_, some _, _⟩ :: _) _; first | refine go_in (hk := ?_) | refine go_out (hk := ?_) | refine go_void (hk := ?_)) | (show GK _ _ _ _ (blockK _ _ _); refine gk_past rfl ?_) | (show GC _ _ _ _ _ (.cond _ _ _) _; first | refine gc_yes (h1 := ?_) | refine gc_no (h1 := ?_))))
    exact gk_ret rfl fun H' hH => ⟨by rw [fdX, if_neg (fun hc => h1 hc.1)]; exact Own.nil _ _ _, hH.leE⟩
  (repeat (first | with_reducible (first | refine go_nil ?_ | refine gk_seq ?_ | refine gc_seq ?_ | refine gc_reg ?_ | refine gc_skip ?_ | refine gk_block ?_ | refine gc_block ?_ | refine gc_exit ?_ | refine gc_ret ?_ | refine gk_seqret ?_ | refine gk_seqexit ?_ | refine gk_blockret ?_ | refine gk_out ?_ | refine gk_loopret ?_ | refine gk_loopexit ?_) | (show GO _ _ _ _ _ (⟨some _, none, .call _ _⟩ :: _) _; first | (show GO _ _ _ _ _ (⟨some _, none, .call fn_impl_ValidOdds _⟩ :: _) _; refine go_callp rfl code_impl_ValidOdds.callable (fun H hH => implValidOdds_ok (hH.ints (by exact Has.auto)) (by omega)) ?_) | (show GO _ _ _ _ _ (⟨some _, none, .call fn_impl_validOdd _⟩ :: _) _; refine go_callp rfl code_impl_validOdd.callable (fun H hH => implValidOdd_ok) ?_)) | (show GO _ _ _ _ _ (⟨some _, none, _⟩ :: _) _; first | refine go_op (hk := ?_) | (refine go_nw (hk := ?_); intro u; try simp only [List.length_cons, List.length_nil, List.nil_append, Nat.zero_add]) | (refine go_np (hk := ?_); intro id)) | (show GO _ _ _ _ _ (⟨none, none, _⟩ :: _) _; refine go_st (hk := ?_)) | (show GO _ _ _ _ _ (⟨_, some _, _⟩ :: _) _; first | refine go_in (hk := ?_) | refine go_out (hk := ?_) | refine go_void (hk := ?_)) | (show GK _ _ _ _ (blockK _ _ _); refine gk_past rfl ?_) | (show GC _ _ _ _ _ (.cond _ _ _) _; first | refine gc_yes (h1 := ?_) | refine gc_no (h1 := ?_))))
  refine gc_cond rfl (fun h2 => ?_) (fun h2 => ?_)
  · (repeat (first | with_reducible (first | refine go_nil ?_ | refine gk_seq ?_ | refine gc_seq ?_ | refine gc_reg ?_ | refine gc_skip ?_ | refine gk_block ?_ | refine gc_block ?_ | refine gc_exit ?_ | refine gc_ret ?_ | refine gk_seqret ?_ | refine gk_seqexit ?_ | refine gk_blockret ?_ | refine gk_out ?_ | refine gk_loopret ?_ | refine gk_loopexit ?_) | (show GO _ _ _ _ _ (⟨some _, none, .call _ _⟩ :: _) _; first | (show GO _ _ _ _ _ (⟨some _, none, .call fn_impl_ValidOdds _⟩ :: _) _; refine go_callp rfl code_impl_ValidOdds.callable (fun H hH => implValidOdds_ok (hH.ints (by exact Has.auto)) (by omega)) ?_) | (show GO _ _ _ _ _ (⟨some _, none, .call fn_impl_validOdd _⟩ :: _) _; refine go_callp rfl code_impl_validOdd.callable (fun H hH => implValidOdd_ok) ?_)) | (show GO _ _ _ _ _ (⟨some _, none, _⟩ :: _) _; first | refine go_op (hk := ?_) | (refine go_nw (hk := ?_); intro u; try simp only [List.length_cons, List.length_nil, List.nil_append, Nat.zero_add]) | (refine go_np (hk := ?_); intro id)) | (show GO _ _ _ _ _ (⟨none, none, _⟩ :: _) _; refine go_st (hk := ?_)) | (show GO _ _ _ _ _ (⟨_, some _, _⟩ :: _) _; first | refine go_in (hk := ?_) | refine go_out (hk := ?_) | refine go_void (hk := ?_)) | (show GK _ _ _ _ (blockK _ _ _); refine gk_past rfl ?_) | (show GC _ _ _ _ _ (.cond _ _ _) _; first | refine gc_yes (h1 := ?_) | refine gc_no (h1 := ?_))))
    exact gk_ret rfl fun H' hH => ⟨by rw [fdX, if_neg (fun hc => h2 hc.2)]; exact Own.nil _ _ _, hH.leE⟩
  have h1 := Decidable.not_not.1 h1
  have h2 := Decidable.not_not.1 h2
  rw [fdX, if_pos ⟨h1, h2⟩]
  (repeat (first | with_reducible (first | refine go_nil ?_ | refine gk_seq ?_ | refine gc_seq ?_ | refine gc_reg ?_ | refine gc_skip ?_ | refine gk_block ?_ | refine gc_block ?_ | refine gc_exit ?_ | refine gc_ret ?_ | refine gk_seqret ?_ | refine gk_seqexit ?_ | refine gk_blockret ?_ | refine gk_out ?_ | refine gk_loopret ?_ | refine gk_loopexit ?_) | (show GO _ _ _ _ _ (⟨some _, none, .call _ _⟩ :: _) _; first | (show GO _ _ _ _ _ (⟨some _, none, .call fn_impl_ValidOdds _⟩ :: _) _; refine go_callp rfl code_impl_ValidOdds.callable (fun H hH => implValidOdds_ok (hH.ints (by exact Has.auto)) (by omega)) ?_) | (show GO _ _ _ _ _ (⟨some _, none, .call fn_impl_validOdd _⟩ :: _) _; refine go_callp rfl code_impl_validOdd.callable (fun H hH => implValidOdd_ok) ?_)) | (show GO _ _ _ _ _ (⟨some _, none, _⟩ :: _) _; first | refine go_op (hk := ?_) | (refine go_nw (hk := ?_); intro u; try simp only [List.length_cons, List.length_nil, List.nil_append, Nat.zero_add]) | (refine go_np (hk := ?_); intro id)) | (show GO _ _ _ _ _ (⟨none, none, _⟩ :: _) _; refine go_st (hk := ?_)) | (show GO _ _ _ _ _ (⟨_, some _, _⟩ :: _) _; first | refine go_in (hk := ?_) | refine go_out (hk := ?_) | refine go_void (hk := ?_)) | (show GK _ _ _ _ (blockK _ _ _); refine gk_past rfl ?_) | (show GC _ _ _ _ _ (.cond _ _ _) _; first | refine gc_yes (h1 := ?_) | refine gc_no (h1 := ?_))))
  refine gc_nil ?_
  refine gc_upv xs.length (fun i u => [(1, .int .i64 lev), (5, u), (16, a), (17, .int .i64 (xs.length : Int)), (18, .int .i64 (i : Int))]) (fun i u => [.rwI u (fdT xs lev i).length (fdT xs lev i), .roI a xs.length xs]) _ (hb := ?_)
  intro i u hi I ν m hk
  have hsl := fdT_len xs lev i
  have hn : xs.length ≤ 6 := h1.2.2
  (repeat (first | with_reducible (first | refine go_nil ?_ | refine gk_seq ?_ | refine gc_seq ?_ | refine gc_reg ?_ | refine gc_skip ?_ | refine gk_block ?_ | refine gc_block ?_ | refine gc_exit ?_ | refine gc_ret ?_ | refine gk_seqret ?_ | refine gk_seqexit ?_ | refine gk_blockret ?_ | refine gk_out ?_ | refine gk_loopret ?_ | refine gk_loopexit ?_) | (show GO _ _ _ _ _ (⟨some _, none, .call _ _⟩ :: _) _; first | (show GO _ _ _ _ _ (⟨some _, none, .call fn_impl_ValidOdds _⟩ :: _) _; refine go_callp rfl code_impl_ValidOdds.callable (fun H hH => implValidOdds_ok (hH.ints (by exact Has.auto)) (by omega)) ?_) | (show GO _ _ _ _ _ (⟨some _, none, .call fn_impl_validOdd _⟩ :: _) _; refine go_callp rfl code_impl_validOdd.callable (fun H hH => implValidOdd_ok) ?_)) | (show GO _ _ _ _ _ (⟨some _, none, _⟩ :: _) _; first | refine go_op (hk := ?_) | (refine go_nw (hk := ?_); intro u; try simp only [List.length_cons, List.length_nil, List.nil_append, Nat.zero_add]) | (refine go_np (hk := ?_); intro id)) | (show GO _ _ _ _ _ (⟨none, none, _⟩ :: _) _; refine go_st (hk := ?_)) | (show GO _ _ _ _ _ (⟨_, some _, _⟩ :: _) _; first | refine go_in (hk := ?_) | refine go_out (hk := ?_) | refine go_void (hk := ?_)) | (show GK _ _ _ _ (blockK _ _ _); refine gk_past rfl ?_) | (show GC _ _ _ _ _ (.cond _ _ _) _; first | refine gc_yes (h1 := ?_) | refine gc_no (h1 := ?_))))
  refine gc_cond rfl (fun h => ?_) (fun h => ?_)
  · have hk := hk (by omega)
    rw [fdT] at hk
    (repeat (first | with_reducible (first | refine go_nil ?_ | refine gk_seq ?_ | refine gc_seq ?_ | refine gc_reg ?_ | refine gc_skip ?_ | refine gk_block ?_ | refine gc_block ?_ | refine gc_exit ?_ | refine gc_ret ?_ | refine gk_seqret ?_ | refine gk_seqexit ?_ | refine gk_blockret ?_ | refine gk_out ?_ | refine gk_loopret ?_ | refine gk_loopexit ?_) | (show GO _ _ _ _ _ (⟨some _, none, .call _ _⟩ :: _) _; first | (show GO _ _ _ _ _ (⟨some _, none, .call fn_impl_ValidOdds _⟩ :: _) _; refine go_callp rfl code_impl_ValidOdds.callable (fun H hH => implValidOdds_ok (hH.ints (by exact Has.auto)) (by omega)) ?_) | (show GO _ _ _ _ _ (⟨some _, none, .call fn_impl_validOdd _⟩ :: _) _; refine go_callp rfl code_impl_validOdd.callable (fun H hH => implValidOdd_ok) ?_)) | (show GO _ _ _ _ _ (⟨some _, none, _⟩ :: _) _; first | refine go_op (hk := ?_) | (refine go_nw (hk := ?_); intro u; try simp only [List.length_cons, List.length_nil, List.nil_append, Nat.zero_add]) | (refine go_np (hk := ?_); intro id)) | (show GO _ _ _ _ _ (⟨none, none, _⟩ :: _) _; refine go_st (hk := ?_)) | (show GO _ _ _ _ _ (⟨_, some _, _⟩ :: _) _; first | refine go_in (hk := ?_) | refine go_out (hk := ?_) | refine go_void (hk := ?_)) | (show GK _ _ _ _ (blockK _ _ _); refine gk_past rfl ?_) | (show GC _ _ _ _ _ (.cond _ _ _) _; first | refine gc_yes (h1 := ?_) | refine gc_no (h1 := ?_))))
    refine gc_cond rfl (fun h2 => ?_) (fun h2 => ?_)
    · rw [if_pos (by omega)] at hk
      rw [List.length_append] at hk
      (repeat (first | with_reducible (first | refine go_nil ?_ | refine gk_seq ?_ | refine gc_seq ?_ | refine gc_reg ?_ | refine gc_skip ?_ | refine gk_block ?_ | refine gc_block ?_ | refine gc_exit ?_ | refine gc_ret ?_ | refine gk_seqret ?_ | refine gk_seqexit ?_ | refine gk_blockret ?_ | refine gk_out ?_ | refine gk_loopret ?_ | refine gk_loopexit ?_) | (show GO _ _ _ _ _ (⟨some _, none, .call _ _⟩ :: _) _; first | (show GO _ _ _ _ _ (⟨some _, none, .call fn_impl_ValidOdds _⟩ :: _) _; refine go_callp rfl code_impl_ValidOdds.callable (fun H hH => implValidOdds_ok (hH.ints (by exact Has.auto)) (by omega)) ?_) | (show GO _ _ _ _ _ (⟨some _, none, .call fn_impl_validOdd _⟩ :: _) _; refine go_callp rfl code_impl_validOdd.callable (fun H hH => implValidOdd_ok) ?_)) | (show GO _ _ _ _ _ (⟨some _, none, _⟩ :: _) _; first | refine go_op (hk := ?_) | (refine go_nw (hk := ?_); intro u; try simp only [List.length_cons, List.length_nil, List.nil_append, Nat.zero_add]) | (refine go_np (hk := ?_); intro id)) | (show GO _ _ _ _ _ (⟨none, none, _⟩ :: _) _; refine go_st (hk := ?_)) | (show GO _ _ _ _ _ (⟨_, some _, _⟩ :: _) _; first | refine go_in (hk := ?_) | refine go_out (hk := ?_) | refine go_void (hk := ?_)) | (show GK _ _ _ _ (blockK _ _ _); refine gk_past rfl ?_) | (show GC _ _ _ _ _ (.cond _ _ _) _; first | refine gc_yes (h1 := ?_) | refine gc_no (h1 := ?_))))
      exact gk_next (hk _)
    · rw [if_neg (by omega)] at hk
      (repeat (first | with_reducible (first | refine go_nil ?_ | refine gk_seq ?_ | refine gc_seq ?_ | refine gc_reg ?_ | refine gc_skip ?_ | refine gk_block ?_ | refine gc_block ?_ | refine gc_exit ?_ | refine gc_ret ?_ | refine gk_seqret ?_ | refine gk_seqexit ?_ | refine gk_blockret ?_ | refine gk_out ?_ | refine gk_loopret ?_ | refine gk_loopexit ?_) | (show GO _ _ _ _ _ (⟨some _, none, .call _ _⟩ :: _) _; first | (show GO _ _ _ _ _ (⟨some _, none, .call fn_impl_ValidOdds _⟩ :: _) _; refine go_callp rfl code_impl_ValidOdds.callable (fun H hH => implValidOdds_ok (hH.ints (by exact Has.auto)) (by omega)) ?_) | (show GO _ _ _ _ _ (⟨some _, none, .call fn_impl_validOdd _⟩ :: _) _; refine go_callp rfl code_impl_validOdd.callable (fun H hH => implValidOdd_ok) ?_)) | (show GO _ _ _ _ _ (⟨some _, none, _⟩ :: _) _; first | refine go_op (hk := ?_) | (refine go_nw (hk := ?_); intro u; try simp only [List.length_cons, List.length_nil, List.nil_append, Nat.zero_add]) | (refine go_np (hk := ?_); intro id)) | (show GO _ _ _ _ _ (⟨none, none, _⟩ :: _) _; refine go_st (hk := ?_)) | (show GO _ _ _ _ _ (⟨_, some _, _⟩ :: _) _; first | refine go_in (hk := ?_) | refine go_out (hk := ?_) | refine go_void (hk := ?_)) | (show GK _ _ _ _ (blockK _ _ _); refine gk_past rfl ?_) | (show GC _ _ _ _ _ (.cond _ _ _) _; first | refine gc_yes (h1 := ?_) | refine gc_no (h1 := ?_))))
      exact gk_next (hk _)
  · have : i = xs.length := by omega
    subst this
    (repeat (first | with_reducible (first | refine go_nil ?_ | refine gk_seq ?_ | refine gc_seq ?_ | refine gc_reg ?_ | refine gc_skip ?_ | refine gk_block ?_ | refine gc_block ?_ | refine gc_exit ?_ | refine gc_ret ?_ | refine gk_seqret ?_ | refine gk_seqexit ?_ | refine gk_blockret ?_ | refine gk_out ?_ | refine gk_loopret ?_ | refine gk_loopexit ?_) | (show GO _ _ _ _ _ (⟨some _, none, .call _ _⟩ :: _) _; first | (show GO _ _ _ _ _ (⟨some _, none, .call fn_impl_ValidOdds _⟩ :: _) _; refine go_callp rfl code_impl_ValidOdds.callable (fun H hH => implValidOdds_ok (hH.ints (by exact Has.auto)) (by omega)) ?_) | (show GO _ _ _ _ _ (⟨some _, none, .call fn_impl_validOdd _⟩ :: _) _; refine go_callp rfl code_impl_validOdd.callable (fun H hH => implValidOdd_ok) ?_)) | (show GO _ _ _ _ _ (⟨some _, none, _⟩ :: _) _; first | refine go_op (hk := ?_) | (refine go_nw (hk := ?_); intro u; try simp only [List.length_cons, List.length_nil, List.nil_append, Nat.zero_add]) | (refine go_np (hk := ?_); intro id)) | (show GO _ _ _ _ _ (⟨none, none, _⟩ :: _) _; refine go_st (hk := ?_)) | (show GO _ _ _ _ _ (⟨_, some _, _⟩ :: _) _; first | refine go_in (hk := ?_) | refine go_out (hk := ?_) | refine go_void (hk := ?_)) | (show GK _ _ _ _ (blockK _ _ _); refine gk_past rfl ?_) | (show GC _ _ _ _ _ (.cond _ _ _) _; first | refine gc_yes (h1 := ?_) | refine gc_no (h1 := ?_))))
    exact gk_ret rfl fun H' hH => hH.give .head

/-- a slice is put into a new cell -/
theorem stp_boxv {A : Heap} {X : List Nat} {E : List (Nat × AV)} {S : Sig} {x : MX} {u : AV} {es n : Nat} {cs : List AV} (hx : evE E x = some u) (hh : Has S u es n cs) : Stp A X E S (.box x) (NewP fun id => ⟨.cell, .ptr id 0, 1, 1, [u]⟩ :: S) := by
  refine ⟨fun τ H m nid hE hS hm => ?_⟩
  have hv := (hS.valsA hh).sl
  have hc : u.cells = [u] ∧ u.one = true := by cases u <;> simp [AV.isSlice] at hv <;> exact ⟨rfl, rfl⟩
  exact (stp_box (A := A) (X := X) (E := E) (S := S) (cs := [u]) hx hc.1 (by simp [hc.2])).stp τ H m nid hE hS hm

theorem SOk.cellX {A : Heap} {X : List Nat} {S : Sig} {m : Nat} {H : Heap} {p : Nat} {b : Bool} {cs : List AV} (h : SOk A X S m H) (hA : A.get p = some ⟨b, cs⟩ ∧ p < A.size) (hx : p ∉ X) : H.get p = some ⟨b, cs⟩ ∧ p < H.size := ⟨by rw [h.le.get p hA.2 hx]; exact hA.1, by have := h.le.size; have := hA.2; omega⟩

/-- a function that changes one block that it is given, which may be told from others -/
theorem gowx {P : Program} {A : Heap} {X : List Nat} {S S0 : Sig} {f : FuncId} {mc : MC} {rs : List RV} {N : Nat} (h : HasCode P f mc rs N) {args : List AV} {H : Heap} {c : Ch} {R : Sig} {γ : Type} {V : γ → AV} {T : γ → Sig} {C : γ → Ch} {Φ : γ → Prop}
    (hS : SOk A X S H.size H) (hs : Sel S c S0) (hw : c.k.wr = true) (hR : SubF S0 R) (hro : R.all (fun d => !d.k.wr) = true)
    (hv : ∀ g, (C g).v = c.v) (hk : ∀ g, (C g).k = c.k) (hT : ∀ g, (T g).all (·.k.wr) = true) (hn : args.length ≤ N)
    (hb : ∀ X', (∀ k, k ∈ X' → c.v.bid = some k) → GC P H X' (argsE 0 args) (c :: R) mc (retK rs fun r H' => ∃ g, r = V g ∧ Φ g ∧ SOk H X' (T g ++ [C g]) H'.size H')) : ACalls P f args H fun r H' => ∃ g, r = V g ∧ SOk A X (T g ++ C g :: S0) H'.size H' ∧ Φ g := by
  have hS' := hS.sel hs
  have hSR := hS'.tail.subf hR
  have hc := hS'.ch c (by simp)
  have hfit : Fit H c.v.bid.toList (argsE 0 args) (c :: R) ⟨init args, H⟩ := by
    refine ⟨fun i v hv => ?_, LeX.refl _ _, Nat.le_refl _, Nat.le_refl _, ?_, ?_⟩
    · have := (argsE_init args 0 i v hv).2
      simpa using this
    · intro d hd
      rcases List.mem_cons.1 hd with rfl | hd
      · refine hc.up fun _ k hk => .inr ?_
        rw [hk]; simp
      · refine (hSR.ch d hd).up fun hwd => ?_
        have := List.all_eq_true.1 hro d hd
        rw [hwd] at this; cases this
    · rw [List.pairwise_cons]
      refine ⟨fun d hd _ k h3 h4 => ?_, hSR.ap⟩
      obtain ⟨e, he, hv⟩ := hR.mem d hd
      exact (List.pairwise_cons.1 hS'.ap).1 e he (.inl hw) k h3 (by rw [hv]; exact h4)
  refine (h.calls hn ((hb c.v.bid.toList (fun k hk => ?_)).g _ hfit)).mono ?_
  · cases hb : c.v.bid with
    | none => rw [hb] at hk; simp at hk
    | some j => rw [hb] at hk; simp at hk; rw [hk]
  rintro r H' ⟨g, rfl, hg, h1⟩
  refine ⟨g, rfl, ?_, hg⟩
  refine hS'.back ?_ h1 (fun k hk => by rw [← hv g]; exact hk) (fun hk' => by rw [← hk g]; exact hk') (hT g)
  intro k hk'
  have : c.v.bid = some k := by
    cases hb : c.v.bid with
    | none => rw [hb] at hk'; simp at hk'
    | some j => rw [hb] at hk'; simp at hk'; rw [hk']
  exact ⟨hw, this, by rw [hv g]; exact this⟩

theorem sgn_lt0 {n : Int} : sgn n < 0 ↔ n < 0 := by
  unfold sgn
  split
  · omega
  · split <;> omega

/- indices by size, and then by index -/

def keyZ (xs : List Int) (i : Int) : Int := nth xs i.toNat

def bef (K : Int → Int) (a b : Int) : Prop := K a < K b ∨ (K a = K b ∧ a < b)

def idxL (n : Nat) : List Int := tabZ n fun i => (i : Int)

theorem idxL_len (n : Nat) : (idxL n).length = n := tabZ_len _ _

theorem idxL_nth {n i : Nat} (h : i < n) : nth (idxL n) i = (i : Int) := tabZ_nth h

theorem idxL_succ (n : Nat) : idxL (n + 1) = idxL n ++ [(n : Int)] := tabZ_succ _ _

theorem idxL_mem {n : Nat} {x : Int} (h : x ∈ idxL n) : 0 ≤ x ∧ x < n := by
  unfold idxL tabZ at h
  obtain ⟨i, h1, rfl⟩ := List.mem_map.1 h
  have := List.mem_range.1 h1
  omega

theorem idxL_drop {n t : Nat} (h : t < n) : (idxL n).drop t = (t : Int) :: (idxL n).drop (t + 1) := by
  have hl := idxL_len n
  rw [← idxL_nth h, nth_of (by omega)]
  exact List.drop_eq_getElem_cons (by omega)

theorem bef_nth {K : Int → Int} {S : List Int} (h : S.Pairwise (bef K)) {k j : Nat} (hkj : k < j) (hj : j < S.length) : bef K (nth S k) (nth S j) := by
  rw [nth_of (by omega), nth_of hj]
  exact List.pairwise_iff_getElem.1 h k j (by omega) hj hkj

theorem bef_le {K : Int → Int} {S : List Int} (h : S.Pairwise (bef K)) {k j : Nat} (hkj : k ≤ j) (hj : j < S.length) : K (nth S k) ≤ K (nth S j) := by
  by_cases e : k = j
  · subst e; exact Int.le_refl _
  · have := bef_nth h (k := k) (j := j) (by omega) hj
    unfold bef at this; omega

theorem ins_pair {K : Int → Int} {S : List Int} {x : Int} {j : Nat} (hS : S.Pairwise (bef K)) (hx : ∀ y ∈ S, y < x) (h1 : ∀ k, j ≤ k → k < S.length → K x < K (nth S k)) (h2 : ∀ k, k < j → k < S.length → K (nth S k) ≤ K x) : (S.take j ++ x :: S.drop j).Pairwise (bef K) := by
  have hS2 := hS
  rw [← List.take_append_drop j S] at hS2
  rw [List.pairwise_append] at hS2
  have hd : ∀ y ∈ S.drop j, K x < K y := by
    intro y hy
    obtain ⟨i, hi, rfl⟩ := List.mem_iff_getElem.1 hy
    rw [List.length_drop] at hi
    have := h1 (j + i) (by omega) (by omega)
    rw [nth_of (by omega)] at this
    rwa [List.getElem_drop]
  have ht : ∀ y ∈ S.take j, K y ≤ K x ∧ y < x := by
    intro y hy
    refine ⟨?_, hx y (List.mem_of_mem_take hy)⟩
    obtain ⟨i, hi, rfl⟩ := List.mem_iff_getElem.1 hy
    rw [List.length_take] at hi
    have := h2 i (by omega) (by omega)
    rw [nth_of (by omega)] at this
    rwa [List.getElem_take]
  rw [List.pairwise_append, List.pairwise_cons]
  refine ⟨hS2.1, ⟨fun y hy => .inl (hd y hy), hS2.2.1⟩, fun y hy z hz => ?_⟩
  rcases List.mem_cons.1 hz with rfl | hz
  · have := ht y hy
    unfold bef; omega
  · exact hS2.2.2 y hy z hz

theorem ins_perm {S : List Int} {x : Int} {j : Nat} : (S.take j ++ x :: S.drop j).Perm (S ++ [x]) := by
  refine List.perm_middle.trans ?_
  rw [List.take_append_drop]
  exact (List.perm_append_singleton x S).symm

theorem bySize1_ok {H : Heap} {a : AV} {xs : List Int} {p : Nat} {b : Bool} {i k : Int} (ha : Ints H a xs) (hp : H.get p = some ⟨b, [a]⟩ ∧ p < H.size) (hi : 0 ≤ i ∧ i < xs.length) (hk : 0 ≤ k ∧ k < xs.length) :
    ACalls Try.prog fn_impl_bySize_1 [.int .i64 i, .int .i64 k, .ptr p 0] H fun r H' => r = .int .i64 (sgn (keyZ xs i - keyZ xs k)) ∧ H' = H := by
  obtain ⟨i', rfl⟩ := Int.eq_ofNat_of_zero_le hi.1
  obtain ⟨k', rfl⟩ := Int.eq_ofNat_of_zero_le hk.1
  refine ACalls.val ?_ rfl
  refine code_impl_bySize_1.go [.roI a xs.length xs] ⟨⟨rfl, ha⟩, trivial⟩ (by simp) ?_
  unfold mc_impl_bySize_1
  -- alt: refine gq_is rfl (stp_lda rfl hp.1 hp.2) ?_
  (repeat (first | with_reducible (first | refine go_nil ?_ | refine gk_seq ?_ | refine gc_seq ?_ | refine gc_reg ?_ | refine gc_skip ?_ | refine gk_block ?_ | refine gc_block ?_ | refine gc_exit ?_ | refine gc_ret ?_ | refine gk_seqret ?_ | refine gk_seqexit ?_ | refine gk_blockret ?_ | refine gk_out ?_ | refine gk_loopret ?_ | refine gk_loopexit ?_ | refine gq_nil ?_) | (refine gq_call rfl (fun _ => qtCmp_is) ?_) | (refine gq_is rfl (stp_lda rfl hp.1 hp.2) ?_) | (show GO _ _ _ _ _ (⟨some _, none, _⟩ :: _) _; first | refine go_op (hk := ?_) | (refine go_nw (hk := ?_); intro u; try simp only [List.length_cons, List.length_nil, List.nil_append, Nat.zero_add]) | (refine go_np (hk := ?_); intro id)) | (show GQ _ _ _ _ _ _ _ (⟨some _, none, _⟩ :: _) _; first | refine gq_op (hk := ?_) | (refine gq_nw (hk := ?_); intro u; try simp only [List.length_cons, List.length_nil, List.nil_append, Nat.zero_add])) | (show GO _ _ _ _ _ (⟨none, none, _⟩ :: _) _; refine go_st (hk := ?_)) | (show GO _ _ _ _ _ (⟨_, some _, _⟩ :: _) _; first | refine go_in (hk := ?_) | refine go_out (hk := ?_) | refine go_void (hk := ?_)) | (show GQ _ _ _ _ _ _ _ (⟨_, some _, _⟩ :: _) _; first | refine gq_in (hk := ?_) | refine gq_out (hk := ?_) | refine gq_void (hk := ?_)) | (show GK _ _ _ _ (blockK _ _ _); refine gk_past rfl ?_) | (show GC _ _ _ _ _ (.cond _ _ _) _; first | refine gc_yes (h1 := ?_) | refine gc_no (h1 := ?_))))
  refine gc_drqt (fun _ => qtCmp) (fun _ _ => qtCmp_ok) (fun H0 => ?_)
  (repeat (first | with_reducible (first | refine go_nil ?_ | refine gk_seq ?_ | refine gc_seq ?_ | refine gc_reg ?_ | refine gc_skip ?_ | refine gk_block ?_ | refine gc_block ?_ | refine gc_exit ?_ | refine gc_ret ?_ | refine gk_seqret ?_ | refine gk_seqexit ?_ | refine gk_blockret ?_ | refine gk_out ?_ | refine gk_loopret ?_ | refine gk_loopexit ?_ | refine gq_nil ?_) | (refine gq_call rfl (fun _ => qtCmp_is) ?_) | (refine gq_is rfl (stp_lda rfl hp.1 hp.2) ?_) | (show GO _ _ _ _ _ (⟨some _, none, _⟩ :: _) _; first | refine go_op (hk := ?_) | (refine go_nw (hk := ?_); intro u; try simp only [List.length_cons, List.length_nil, List.nil_append, Nat.zero_add]) | (refine go_np (hk := ?_); intro id)) | (show GQ _ _ _ _ _ _ _ (⟨some _, none, _⟩ :: _) _; first | refine gq_op (hk := ?_) | (refine gq_nw (hk := ?_); intro u; try simp only [List.length_cons, List.length_nil, List.nil_append, Nat.zero_add])) | (show GO _ _ _ _ _ (⟨none, none, _⟩ :: _) _; refine go_st (hk := ?_)) | (show GO _ _ _ _ _ (⟨_, some _, _⟩ :: _) _; first | refine go_in (hk := ?_) | refine go_out (hk := ?_) | refine go_void (hk := ?_)) | (show GQ _ _ _ _ _ _ _ (⟨_, some _, _⟩ :: _) _; first | refine gq_in (hk := ?_) | refine gq_out (hk := ?_) | refine gq_void (hk := ?_)) | (show GK _ _ _ _ (blockK _ _ _); refine gk_past rfl ?_) | (show GC _ _ _ _ _ (.cond _ _ _) _; first | refine gc_yes (h1 := ?_) | refine gc_no (h1 := ?_))))
  exact gk_ret rfl fun H' hH => ⟨rfl, hH.leE⟩

def BySize (xs : List Int) (n : Nat) (ys : List Int) : Prop := ys.Perm (idxL n) ∧ ys.Pairwise (bef (keyZ xs))

theorem BySize.len {xs : List Int} {n : Nat} {ys : List Int} (h : BySize xs n ys) : ys.length = n := by rw [h.1.length_eq, idxL_len]

theorem BySize.rng {xs : List Int} {n : Nat} {ys : List Int} (h : BySize xs n ys) {i : Nat} (hi : i < ys.length) : 0 ≤ nth ys i ∧ nth ys i < n := idxL_mem (h.1.mem_iff.1 (nth_mem hi))

theorem insCmp_ok {A : Heap} {X : List Nat} {S S0 : Sig} {H : Heap} {v a : AV} {xs : List Int} {p n : Nat} {b : Bool} (hS : SOk A X S H.size H) (hs : Sel S (.rwI v n (idxL n)) S0) (hR : SubF S0 [.roI a xs.length xs]) (hp : H.get p = some ⟨b, [a]⟩ ∧ p < H.size) (hne : v.bid ≠ some p) (hn : n = xs.length) (h1 : 1 ≤ n) (hl : n ≤ 19) :
    ACalls Try.prog fn_slices_insertionSortCmpFunc_int [v, .int .i64 0, .int .i64 (n : Int), .func fn_impl_bySize_1 [.ptr p 0]] H fun r H' => ∃ ys : List Int, r = .tuple [] ∧ SOk A X (.rwI v n ys :: S0) H'.size H' ∧ BySize xs n ys := by
  refine gowx code_slices_insertionSortCmpFunc_int (V := fun _ : List Int => .tuple []) (T := fun _ => []) (C := fun ys => .rwI v n ys) (Φ := fun ys => BySize xs n ys) hS hs rfl hR rfl (fun _ => rfl) (fun _ => rfl) (fun _ => rfl) (by simp) ?_
  intro X' hX'
  have hpX : p ∉ X' := fun h => hne (hX' p h)
  unfold mc_slices_insertionSortCmpFunc_int
  (repeat (first | with_reducible (first | refine go_nil ?_ | refine gk_seq ?_ | refine gc_seq ?_ | refine gc_reg ?_ | refine gc_skip ?_ | refine gk_block ?_ | refine gc_block ?_ | refine gc_exit ?_ | refine gc_ret ?_ | refine gk_seqret ?_ | refine gk_seqexit ?_ | refine gk_blockret ?_ | refine gk_out ?_ | refine gk_loopret ?_ | refine gk_loopexit ?_ | refine gd_nil ?_) | (with_reducible first | (refine gc_drw ?_; intro _) | (refine gc_drw2 ?_; intro _)) | (show GO _ _ _ _ _ (⟨some _, none, _⟩ :: _) _; first | refine go_op (hk := ?_) | (refine go_nw (hk := ?_); intro u; try simp only [List.length_cons, List.length_nil, List.nil_append, Nat.zero_add]) | (refine go_np (hk := ?_); intro id)) | (show GD _ _ _ _ _ _ (⟨some _, none, _⟩ :: _) _; first | refine gd_op (hk := ?_) | (refine gd_nw (hk := ?_); intro u; try simp only [List.length_cons, List.length_nil, List.nil_append, Nat.zero_add])) | (show GD2 _ _ _ _ _ _ _ _ _ _ _ _ _; first | refine gd2_nil rfl ?_ | refine gd2_op (hk := ?_) | (refine gd2_nw (hk := ?_); intro u; try simp only [List.length_cons, List.length_nil, List.nil_append, Nat.zero_add]) | refine gd2_l (hk := ?_) | (refine gd2_bsl rfl rfl ?_; intro u; try simp only [List.length_cons, List.length_nil, List.nil_append, Nat.zero_add]) | (refine gd2_a (hk := ?_); intro u; try simp only [List.length_cons, List.length_nil, List.nil_append, Nat.zero_add])) | (show GO _ _ _ _ _ (⟨none, none, _⟩ :: _) _; refine go_st (hk := ?_)) | (show GD _ _ _ _ _ _ (⟨none, none, _⟩ :: _) _; refine gd_st (hk := ?_)) | (show GO _ _ _ _ _ (⟨_, some _, _⟩ :: _) _; first | refine go_in (hk := ?_) | refine go_out (hk := ?_) | refine go_void (hk := ?_)) | (show GK _ _ _ _ (blockK _ _ _); refine gk_past rfl ?_) | (show GC _ _ _ _ _ (.cond _ _ _) _; first | refine gc_yes (h1 := ?_) | refine gc_no (h1 := ?_))))
  have e0 : idxL n = [0] ++ (idxL n).drop 1 := by
    have := idxL_drop (n := n) (t := 0) (by omega)
    simpa using this
  refine gc_loop (γ := Nat × List Int) (fun g => [(0, v), (1, .int .i64 0), (2, .int .i64 (n : Int)), (3, .func fn_impl_bySize_1 [.ptr p 0]), (8, .int .i64 ((g.1 + 1 : Nat) : Int))]) (fun g => [.rwI v n (g.2 ++ (idxL n).drop (g.1 + 1)), .roI a xs.length xs]) (fun g => g.1 + 1 ≤ n ∧ BySize xs (g.1 + 1) g.2) (fun g => n - g.1) (0, [0]) ⟨h1, .refl _, List.pairwise_singleton _ _⟩ (hS := by show Sub _ [.rwI v n ([0] ++ (idxL n).drop 1), _]; rw [← e0]; exact Sub.auto) (hb := ?_)
  rintro ⟨t, S1⟩ ⟨ht, hby⟩ I ν m hnx
  have hby : BySize xs (t + 1) S1 := hby
  have ht : t + 1 ≤ n := ht
  have hl1 : S1.length = t + 1 := hby.len
  (repeat (first | with_reducible (first | refine go_nil ?_ | refine gk_seq ?_ | refine gc_seq ?_ | refine gc_reg ?_ | refine gc_skip ?_ | refine gk_block ?_ | refine gc_block ?_ | refine gc_exit ?_ | refine gc_ret ?_ | refine gk_seqret ?_ | refine gk_seqexit ?_ | refine gk_blockret ?_ | refine gk_out ?_ | refine gk_loopret ?_ | refine gk_loopexit ?_ | refine gd_nil ?_) | (with_reducible first | (refine gc_drw ?_; intro _) | (refine gc_drw2 ?_; intro _)) | (show GO _ _ _ _ _ (⟨some _, none, _⟩ :: _) _; first | refine go_op (hk := ?_) | (refine go_nw (hk := ?_); intro u; try simp only [List.length_cons, List.length_nil, List.nil_append, Nat.zero_add]) | (refine go_np (hk := ?_); intro id)) | (show GD _ _ _ _ _ _ (⟨some _, none, _⟩ :: _) _; first | refine gd_op (hk := ?_) | (refine gd_nw (hk := ?_); intro u; try simp only [List.length_cons, List.length_nil, List.nil_append, Nat.zero_add])) | (show GD2 _ _ _ _ _ _ _ _ _ _ _ _ _; first | refine gd2_nil rfl ?_ | refine gd2_op (hk := ?_) | (refine gd2_nw (hk := ?_); intro u; try simp only [List.length_cons, List.length_nil, List.nil_append, Nat.zero_add]) | refine gd2_l (hk := ?_) | (refine gd2_bsl rfl rfl ?_; intro u; try simp only [List.length_cons, List.length_nil, List.nil_append, Nat.zero_add]) | (refine gd2_a (hk := ?_); intro u; try simp only [List.length_cons, List.length_nil, List.nil_append, Nat.zero_add])) | (show GO _ _ _ _ _ (⟨none, none, _⟩ :: _) _; refine go_st (hk := ?_)) | (show GD _ _ _ _ _ _ (⟨none, none, _⟩ :: _) _; refine gd_st (hk := ?_)) | (show GO _ _ _ _ _ (⟨_, some _, _⟩ :: _) _; first | refine go_in (hk := ?_) | refine go_out (hk := ?_) | refine go_void (hk := ?_)) | (show GK _ _ _ _ (blockK _ _ _); refine gk_past rfl ?_) | (show GC _ _ _ _ _ (.cond _ _ _) _; first | refine gc_yes (h1 := ?_) | refine gc_no (h1 := ?_))))
  refine gc_cond rfl (fun h => ?_) (fun h => ?_)
  · have ht1 : t + 1 < n := by omega
    have hdl : ((idxL n).drop (t + 2)).length = n - (t + 2) := by rw [List.length_drop, idxL_len]
    have e1 : S1 ++ (idxL n).drop (t + 1) = sinkL S1 ((t + 1 : Nat) : Int) ((idxL n).drop (t + 2)) (t + 1) := by
      unfold sinkL
      rw [List.take_of_length_le (by omega), show S1.drop (t + 1) = [] from List.drop_eq_nil_of_le (by omega), List.nil_append, idxL_drop ht1]
    simp only [e1]
    have hnx := hnx
    (repeat (first | with_reducible (first | refine go_nil ?_ | refine gk_seq ?_ | refine gc_seq ?_ | refine gc_reg ?_ | refine gc_skip ?_ | refine gk_block ?_ | refine gc_block ?_ | refine gc_exit ?_ | refine gc_ret ?_ | refine gk_seqret ?_ | refine gk_seqexit ?_ | refine gk_blockret ?_ | refine gk_out ?_ | refine gk_loopret ?_ | refine gk_loopexit ?_ | refine gd_nil ?_) | (with_reducible first | (refine gc_drw ?_; intro _) | (refine gc_drw2 ?_; intro _)) | (show GO _ _ _ _ _ (⟨some _, none, _⟩ :: _) _; first | refine go_op (hk := ?_) | (refine go_nw (hk := ?_); intro u; try simp only [List.length_cons, List.length_nil, List.nil_append, Nat.zero_add]) | (refine go_np (hk := ?_); intro id)) | (show GD _ _ _ _ _ _ (⟨some _, none, _⟩ :: _) _; first | refine gd_op (hk := ?_) | (refine gd_nw (hk := ?_); intro u; try simp only [List.length_cons, List.length_nil, List.nil_append, Nat.zero_add])) | (show GD2 _ _ _ _ _ _ _ _ _ _ _ _ _; first | refine gd2_nil rfl ?_ | refine gd2_op (hk := ?_) | (refine gd2_nw (hk := ?_); intro u; try simp only [List.length_cons, List.length_nil, List.nil_append, Nat.zero_add]) | refine gd2_l (hk := ?_) | (refine gd2_bsl rfl rfl ?_; intro u; try simp only [List.length_cons, List.length_nil, List.nil_append, Nat.zero_add]) | (refine gd2_a (hk := ?_); intro u; try simp only [List.length_cons, List.length_nil, List.nil_append, Nat.zero_add])) | (show GO _ _ _ _ _ (⟨none, none, _⟩ :: _) _; refine go_st (hk := ?_)) | (show GD _ _ _ _ _ _ (⟨none, none, _⟩ :: _) _; refine gd_st (hk := ?_)) | (show GO _ _ _ _ _ (⟨_, some _, _⟩ :: _) _; first | refine go_in (hk := ?_) | refine go_out (hk := ?_) | refine go_void (hk := ?_)) | (show GK _ _ _ _ (blockK _ _ _); refine gk_past rfl ?_) | (show GC _ _ _ _ _ (.cond _ _ _) _; first | refine gc_yes (h1 := ?_) | refine gc_no (h1 := ?_))))
    refine gc_loop (fun j : Nat => [(0, v), (1, .int .i64 0), (2, .int .i64 (n : Int)), (3, .func fn_impl_bySize_1 [.ptr p 0]), (8, .int .i64 ((t + 1 : Nat) : Int)), (9, .int .i64 (j : Int))]) (fun j => [.rwI v n (sinkL S1 ((t + 1 : Nat) : Int) ((idxL n).drop (t + 2)) j), .roI a xs.length xs]) (fun j => j ≤ t + 1 ∧ ∀ k, j ≤ k → k < t + 1 → keyZ xs ((t + 1 : Nat) : Int) < keyZ xs (nth S1 k)) (fun j => j) (t + 1) ⟨Nat.le_refl _, by omega⟩ (hb := ?_)
    rintro j ⟨hj, hk⟩ I' ν' m' hn'
    have fin : (∀ k, k < j → k < S1.length → keyZ xs (nth S1 k) ≤ keyZ xs ((t + 1 : Nat) : Int)) → BySize xs (t + 1 + 1) (S1.take j ++ ((t + 1 : Nat) : Int) :: S1.drop j) := by
      intro h2
      refine ⟨ins_perm.trans ?_, ins_pair hby.2 (fun y hy => by have := idxL_mem (hby.1.mem_iff.1 hy); omega) (fun k g1 g2 => hk k g1 (by omega)) h2⟩
      rw [idxL_succ (t + 1)]
      exact hby.1.append_right _
    have es : sinkL S1 ((t + 1 : Nat) : Int) ((idxL n).drop (t + 2)) j = (S1.take j ++ ((t + 1 : Nat) : Int) :: S1.drop j) ++ (idxL n).drop (t + 1 + 1) := by
      simp [sinkL]
    (repeat (first | with_reducible (first | refine go_nil ?_ | refine gk_seq ?_ | refine gc_seq ?_ | refine gc_reg ?_ | refine gc_skip ?_ | refine gk_block ?_ | refine gc_block ?_ | refine gc_exit ?_ | refine gc_ret ?_ | refine gk_seqret ?_ | refine gk_seqexit ?_ | refine gk_blockret ?_ | refine gk_out ?_ | refine gk_loopret ?_ | refine gk_loopexit ?_ | refine gd_nil ?_) | (with_reducible first | (refine gc_drw ?_; intro _) | (refine gc_drw2 ?_; intro _)) | (show GO _ _ _ _ _ (⟨some _, none, _⟩ :: _) _; first | refine go_op (hk := ?_) | (refine go_nw (hk := ?_); intro u; try simp only [List.length_cons, List.length_nil, List.nil_append, Nat.zero_add]) | (refine go_np (hk := ?_); intro id)) | (show GD _ _ _ _ _ _ (⟨some _, none, _⟩ :: _) _; first | refine gd_op (hk := ?_) | (refine gd_nw (hk := ?_); intro u; try simp only [List.length_cons, List.length_nil, List.nil_append, Nat.zero_add])) | (show GD2 _ _ _ _ _ _ _ _ _ _ _ _ _; first | refine gd2_nil rfl ?_ | refine gd2_op (hk := ?_) | (refine gd2_nw (hk := ?_); intro u; try simp only [List.length_cons, List.length_nil, List.nil_append, Nat.zero_add]) | refine gd2_l (hk := ?_) | (refine gd2_bsl rfl rfl ?_; intro u; try simp only [List.length_cons, List.length_nil, List.nil_append, Nat.zero_add]) | (refine gd2_a (hk := ?_); intro u; try simp only [List.length_cons, List.length_nil, List.nil_append, Nat.zero_add])) | (show GO _ _ _ _ _ (⟨none, none, _⟩ :: _) _; refine go_st (hk := ?_)) | (show GD _ _ _ _ _ _ (⟨none, none, _⟩ :: _) _; refine gd_st (hk := ?_)) | (show GO _ _ _ _ _ (⟨_, some _, _⟩ :: _) _; first | refine go_in (hk := ?_) | refine go_out (hk := ?_) | refine go_void (hk := ?_)) | (show GK _ _ _ _ (blockK _ _ _); refine gk_past rfl ?_) | (show GC _ _ _ _ _ (.cond _ _ _) _; first | refine gc_yes (h1 := ?_) | refine gc_no (h1 := ?_))))
    refine gc_dra ?_ (gc_dra1 ?_)
    all_goals
      (repeat (first | with_reducible (first | refine go_nil ?_ | refine gk_seq ?_ | refine gc_seq ?_ | refine gc_reg ?_ | refine gc_skip ?_ | refine gk_block ?_ | refine gc_block ?_ | refine gc_exit ?_ | refine gc_ret ?_ | refine gk_seqret ?_ | refine gk_seqexit ?_ | refine gk_blockret ?_ | refine gk_out ?_ | refine gk_loopret ?_ | refine gk_loopexit ?_ | refine gd_nil ?_) | (with_reducible first | (refine gc_drw ?_; intro _) | (refine gc_drw2 ?_; intro _)) | (show GO _ _ _ _ _ (⟨some _, none, _⟩ :: _) _; first | refine go_op (hk := ?_) | (refine go_nw (hk := ?_); intro u; try simp only [List.length_cons, List.length_nil, List.nil_append, Nat.zero_add]) | (refine go_np (hk := ?_); intro id)) | (show GD _ _ _ _ _ _ (⟨some _, none, _⟩ :: _) _; first | refine gd_op (hk := ?_) | (refine gd_nw (hk := ?_); intro u; try simp only [List.length_cons, List.length_nil, List.nil_append, Nat.zero_add])) | (show GD2 _ _ _ _ _ _ _ _ _ _ _ _ _; first | refine gd2_nil rfl ?_ | refine gd2_op (hk := ?_) | (refine gd2_nw (hk := ?_); intro u; try simp only [List.length_cons, List.length_nil, List.nil_append, Nat.zero_add]) | refine gd2_l (hk := ?_) | (refine gd2_bsl rfl rfl ?_; intro u; try simp only [List.length_cons, List.length_nil, List.nil_append, Nat.zero_add]) | (refine gd2_a (hk := ?_); intro u; try simp only [List.length_cons, List.length_nil, List.nil_append, Nat.zero_add])) | (show GO _ _ _ _ _ (⟨none, none, _⟩ :: _) _; refine go_st (hk := ?_)) | (show GD _ _ _ _ _ _ (⟨none, none, _⟩ :: _) _; refine gd_st (hk := ?_)) | (show GO _ _ _ _ _ (⟨_, some _, _⟩ :: _) _; first | refine go_in (hk := ?_) | refine go_out (hk := ?_) | refine go_void (hk := ?_)) | (show GK _ _ _ _ (blockK _ _ _); refine gk_past rfl ?_) | (show GC _ _ _ _ _ (.cond _ _ _) _; first | refine gc_yes (h1 := ?_) | refine gc_no (h1 := ?_))))
      refine go_split 21 rfl (fun h3 => ?_) (fun h3 => ?_)
      · obtain ⟨j', rfl⟩ : ∃ j', j = j' + 1 := ⟨j - 1, by omega⟩
        have hxl := sink_len S1 ((t + 1 : Nat) : Int) ((idxL n).drop (t + 2)) (j := j' + 1) (by omega)
        have a1 := sink_at S1 ((t + 1 : Nat) : Int) ((idxL n).drop (t + 2)) (j := j' + 1) (by omega)
        have a2 := sink_before S1 ((t + 1 : Nat) : Int) ((idxL n).drop (t + 2)) (j := j' + 1) (k := j') (by omega) (by omega)
        have a3 := sink_swap S1 ((t + 1 : Nat) : Int) ((idxL n).drop (t + 2)) (j := j') (by omega)
        have hb1 := hby.rng (i := j') (by omega)
        (repeat (first | with_reducible (first | refine go_nil ?_ | refine gk_seq ?_ | refine gc_seq ?_ | refine gc_reg ?_ | refine gc_skip ?_ | refine gk_block ?_ | refine gc_block ?_ | refine gc_exit ?_ | refine gc_ret ?_ | refine gk_seqret ?_ | refine gk_seqexit ?_ | refine gk_blockret ?_ | refine gk_out ?_ | refine gk_loopret ?_ | refine gk_loopexit ?_ | refine gd_nil ?_) | (with_reducible first | (refine gc_drw ?_; intro _) | (refine gc_drw2 ?_; intro _)) | (show GO _ _ _ _ _ (⟨some _, none, _⟩ :: _) _; first | refine go_op (hk := ?_) | (refine go_nw (hk := ?_); intro u; try simp only [List.length_cons, List.length_nil, List.nil_append, Nat.zero_add]) | (refine go_np (hk := ?_); intro id)) | (show GD _ _ _ _ _ _ (⟨some _, none, _⟩ :: _) _; first | refine gd_op (hk := ?_) | (refine gd_nw (hk := ?_); intro u; try simp only [List.length_cons, List.length_nil, List.nil_append, Nat.zero_add])) | (show GD2 _ _ _ _ _ _ _ _ _ _ _ _ _; first | refine gd2_nil rfl ?_ | refine gd2_op (hk := ?_) | (refine gd2_nw (hk := ?_); intro u; try simp only [List.length_cons, List.length_nil, List.nil_append, Nat.zero_add]) | refine gd2_l (hk := ?_) | (refine gd2_bsl rfl rfl ?_; intro u; try simp only [List.length_cons, List.length_nil, List.nil_append, Nat.zero_add]) | (refine gd2_a (hk := ?_); intro u; try simp only [List.length_cons, List.length_nil, List.nil_append, Nat.zero_add])) | (show GO _ _ _ _ _ (⟨none, none, _⟩ :: _) _; refine go_st (hk := ?_)) | (show GD _ _ _ _ _ _ (⟨none, none, _⟩ :: _) _; refine gd_st (hk := ?_)) | (show GO _ _ _ _ _ (⟨_, some _, _⟩ :: _) _; first | refine go_in (hk := ?_) | refine go_out (hk := ?_) | refine go_void (hk := ?_)) | (show GK _ _ _ _ (blockK _ _ _); refine gk_past rfl ?_) | (show GC _ _ _ _ _ (.cond _ _ _) _; first | refine gc_yes (h1 := ?_) | refine gc_no (h1 := ?_))))
        rw [a1, a2]
        refine go_callvv rfl rfl code_impl_bySize_1.callable (fun H hH => ?_) (v := .int .i64 (sgn (keyZ xs ((t + 1 : Nat) : Int) - keyZ xs (nth S1 j')))) ?_
        · refine (bySize1_ok (hH.ints (by exact Has.auto)) (SOk.cellX hH hp hpX) (by omega) (by omega)).mono ?_
          rintro r H' ⟨rfl, rfl⟩
          exact ⟨rfl, Le.refl _⟩
        (repeat (first | with_reducible (first | refine go_nil ?_ | refine gk_seq ?_ | refine gc_seq ?_ | refine gc_reg ?_ | refine gc_skip ?_ | refine gk_block ?_ | refine gc_block ?_ | refine gc_exit ?_ | refine gc_ret ?_ | refine gk_seqret ?_ | refine gk_seqexit ?_ | refine gk_blockret ?_ | refine gk_out ?_ | refine gk_loopret ?_ | refine gk_loopexit ?_ | refine gd_nil ?_) | (with_reducible first | (refine gc_drw ?_; intro _) | (refine gc_drw2 ?_; intro _)) | (show GO _ _ _ _ _ (⟨some _, none, _⟩ :: _) _; first | refine go_op (hk := ?_) | (refine go_nw (hk := ?_); intro u; try simp only [List.length_cons, List.length_nil, List.nil_append, Nat.zero_add]) | (refine go_np (hk := ?_); intro id)) | (show GD _ _ _ _ _ _ (⟨some _, none, _⟩ :: _) _; first | refine gd_op (hk := ?_) | (refine gd_nw (hk := ?_); intro u; try simp only [List.length_cons, List.length_nil, List.nil_append, Nat.zero_add])) | (show GD2 _ _ _ _ _ _ _ _ _ _ _ _ _; first | refine gd2_nil rfl ?_ | refine gd2_op (hk := ?_) | (refine gd2_nw (hk := ?_); intro u; try simp only [List.length_cons, List.length_nil, List.nil_append, Nat.zero_add]) | refine gd2_l (hk := ?_) | (refine gd2_bsl rfl rfl ?_; intro u; try simp only [List.length_cons, List.length_nil, List.nil_append, Nat.zero_add]) | (refine gd2_a (hk := ?_); intro u; try simp only [List.length_cons, List.length_nil, List.nil_append, Nat.zero_add])) | (show GO _ _ _ _ _ (⟨none, none, _⟩ :: _) _; refine go_st (hk := ?_)) | (show GD _ _ _ _ _ _ (⟨none, none, _⟩ :: _) _; refine gd_st (hk := ?_)) | (show GO _ _ _ _ _ (⟨_, some _, _⟩ :: _) _; first | refine go_in (hk := ?_) | refine go_out (hk := ?_) | refine go_void (hk := ?_)) | (show GK _ _ _ _ (blockK _ _ _); refine gk_past rfl ?_) | (show GC _ _ _ _ _ (.cond _ _ _) _; first | refine gc_yes (h1 := ?_) | refine gc_no (h1 := ?_))))
        refine gc_cond rfl (fun h4 => ?_) (fun h4 => ?_)
        · have h4 := sgn_lt0.1 h4
          (repeat (first | with_reducible (first | refine go_nil ?_ | refine gk_seq ?_ | refine gc_seq ?_ | refine gc_reg ?_ | refine gc_skip ?_ | refine gk_block ?_ | refine gc_block ?_ | refine gc_exit ?_ | refine gc_ret ?_ | refine gk_seqret ?_ | refine gk_seqexit ?_ | refine gk_blockret ?_ | refine gk_out ?_ | refine gk_loopret ?_ | refine gk_loopexit ?_ | refine gd_nil ?_) | (with_reducible first | (refine gc_drw ?_; intro _) | (refine gc_drw2 ?_; intro _)) | (show GO _ _ _ _ _ (⟨some _, none, _⟩ :: _) _; first | refine go_op (hk := ?_) | (refine go_nw (hk := ?_); intro u; try simp only [List.length_cons, List.length_nil, List.nil_append, Nat.zero_add]) | (refine go_np (hk := ?_); intro id)) | (show GD _ _ _ _ _ _ (⟨some _, none, _⟩ :: _) _; first | refine gd_op (hk := ?_) | (refine gd_nw (hk := ?_); intro u; try simp only [List.length_cons, List.length_nil, List.nil_append, Nat.zero_add])) | (show GD2 _ _ _ _ _ _ _ _ _ _ _ _ _; first | refine gd2_nil rfl ?_ | refine gd2_op (hk := ?_) | (refine gd2_nw (hk := ?_); intro u; try simp only [List.length_cons, List.length_nil, List.nil_append, Nat.zero_add]) | refine gd2_l (hk := ?_) | (refine gd2_bsl rfl rfl ?_; intro u; try simp only [List.length_cons, List.length_nil, List.nil_append, Nat.zero_add]) | (refine gd2_a (hk := ?_); intro u; try simp only [List.length_cons, List.length_nil, List.nil_append, Nat.zero_add])) | (show GO _ _ _ _ _ (⟨none, none, _⟩ :: _) _; refine go_st (hk := ?_)) | (show GD _ _ _ _ _ _ (⟨none, none, _⟩ :: _) _; refine gd_st (hk := ?_)) | (show GO _ _ _ _ _ (⟨_, some _, _⟩ :: _) _; first | refine go_in (hk := ?_) | refine go_out (hk := ?_) | refine go_void (hk := ?_)) | (show GK _ _ _ _ (blockK _ _ _); refine gk_past rfl ?_) | (show GC _ _ _ _ _ (.cond _ _ _) _; first | refine gc_yes (h1 := ?_) | refine gc_no (h1 := ?_))))
          rw [a1, a2, a3]
          refine gk_next (hn' j' ⟨by omega, fun k h6 h7 => ?_⟩ (by omega))
          by_cases h8 : k = j'
          · subst h8; omega
          · exact hk k (by omega) h7
        · have h4 : ¬ (_ < (0 : Int)) := fun h5 => h4 (sgn_lt0.2 h5)
          (repeat (first | with_reducible (first | refine go_nil ?_ | refine gk_seq ?_ | refine gc_seq ?_ | refine gc_reg ?_ | refine gc_skip ?_ | refine gk_block ?_ | refine gc_block ?_ | refine gc_exit ?_ | refine gc_ret ?_ | refine gk_seqret ?_ | refine gk_seqexit ?_ | refine gk_blockret ?_ | refine gk_out ?_ | refine gk_loopret ?_ | refine gk_loopexit ?_ | refine gd_nil ?_) | (with_reducible first | (refine gc_drw ?_; intro _) | (refine gc_drw2 ?_; intro _)) | (show GO _ _ _ _ _ (⟨some _, none, _⟩ :: _) _; first | refine go_op (hk := ?_) | (refine go_nw (hk := ?_); intro u; try simp only [List.length_cons, List.length_nil, List.nil_append, Nat.zero_add]) | (refine go_np (hk := ?_); intro id)) | (show GD _ _ _ _ _ _ (⟨some _, none, _⟩ :: _) _; first | refine gd_op (hk := ?_) | (refine gd_nw (hk := ?_); intro u; try simp only [List.length_cons, List.length_nil, List.nil_append, Nat.zero_add])) | (show GD2 _ _ _ _ _ _ _ _ _ _ _ _ _; first | refine gd2_nil rfl ?_ | refine gd2_op (hk := ?_) | (refine gd2_nw (hk := ?_); intro u; try simp only [List.length_cons, List.length_nil, List.nil_append, Nat.zero_add]) | refine gd2_l (hk := ?_) | (refine gd2_bsl rfl rfl ?_; intro u; try simp only [List.length_cons, List.length_nil, List.nil_append, Nat.zero_add]) | (refine gd2_a (hk := ?_); intro u; try simp only [List.length_cons, List.length_nil, List.nil_append, Nat.zero_add])) | (show GO _ _ _ _ _ (⟨none, none, _⟩ :: _) _; refine go_st (hk := ?_)) | (show GD _ _ _ _ _ _ (⟨none, none, _⟩ :: _) _; refine gd_st (hk := ?_)) | (show GO _ _ _ _ _ (⟨_, some _, _⟩ :: _) _; first | refine go_in (hk := ?_) | refine go_out (hk := ?_) | refine go_void (hk := ?_)) | (show GK _ _ _ _ (blockK _ _ _); refine gk_past rfl ?_) | (show GC _ _ _ _ _ (.cond _ _ _) _; first | refine gc_yes (h1 := ?_) | refine gc_no (h1 := ?_))))
          rw [es]
          refine gk_next (hnx (t + 1, S1.take (j' + 1) ++ ((t + 1 : Nat) : Int) :: S1.drop (j' + 1)) ⟨by simp only; omega, fin (fun k h6 h7 => ?_)⟩ (by simp only; omega))
          have := bef_le hby.2 (k := k) (j := j') (by omega) (by omega)
          omega
      · (repeat (first | with_reducible (first | refine go_nil ?_ | refine gk_seq ?_ | refine gc_seq ?_ | refine gc_reg ?_ | refine gc_skip ?_ | refine gk_block ?_ | refine gc_block ?_ | refine gc_exit ?_ | refine gc_ret ?_ | refine gk_seqret ?_ | refine gk_seqexit ?_ | refine gk_blockret ?_ | refine gk_out ?_ | refine gk_loopret ?_ | refine gk_loopexit ?_ | refine gd_nil ?_) | (with_reducible first | (refine gc_drw ?_; intro _) | (refine gc_drw2 ?_; intro _)) | (show GO _ _ _ _ _ (⟨some _, none, _⟩ :: _) _; first | refine go_op (hk := ?_) | (refine go_nw (hk := ?_); intro u; try simp only [List.length_cons, List.length_nil, List.nil_append, Nat.zero_add]) | (refine go_np (hk := ?_); intro id)) | (show GD _ _ _ _ _ _ (⟨some _, none, _⟩ :: _) _; first | refine gd_op (hk := ?_) | (refine gd_nw (hk := ?_); intro u; try simp only [List.length_cons, List.length_nil, List.nil_append, Nat.zero_add])) | (show GD2 _ _ _ _ _ _ _ _ _ _ _ _ _; first | refine gd2_nil rfl ?_ | refine gd2_op (hk := ?_) | (refine gd2_nw (hk := ?_); intro u; try simp only [List.length_cons, List.length_nil, List.nil_append, Nat.zero_add]) | refine gd2_l (hk := ?_) | (refine gd2_bsl rfl rfl ?_; intro u; try simp only [List.length_cons, List.length_nil, List.nil_append, Nat.zero_add]) | (refine gd2_a (hk := ?_); intro u; try simp only [List.length_cons, List.length_nil, List.nil_append, Nat.zero_add])) | (show GO _ _ _ _ _ (⟨none, none, _⟩ :: _) _; refine go_st (hk := ?_)) | (show GD _ _ _ _ _ _ (⟨none, none, _⟩ :: _) _; refine gd_st (hk := ?_)) | (show GO _ _ _ _ _ (⟨_, some _, _⟩ :: _) _; first | refine go_in (hk := ?_) | refine go_out (hk := ?_) | refine go_void (hk := ?_)) | (show GK _ _ _ _ (blockK _ _ _); refine gk_past rfl ?_) | (show GC _ _ _ _ _ (.cond _ _ _) _; first | refine gc_yes (h1 := ?_) | refine gc_no (h1 := ?_))))
        rw [es]
        exact gk_next (hnx (t + 1, S1.take j ++ ((t + 1 : Nat) : Int) :: S1.drop j) ⟨by simp only; omega, fin (fun k h6 h7 => by omega)⟩ (by simp only; omega))
  · (repeat (first | with_reducible (first | refine go_nil ?_ | refine gk_seq ?_ | refine gc_seq ?_ | refine gc_reg ?_ | refine gc_skip ?_ | refine gk_block ?_ | refine gc_block ?_ | refine gc_exit ?_ | refine gc_ret ?_ | refine gk_seqret ?_ | refine gk_seqexit ?_ | refine gk_blockret ?_ | refine gk_out ?_ | refine gk_loopret ?_ | refine gk_loopexit ?_ | refine gd_nil ?_) | (with_reducible first | (refine gc_drw ?_; intro _) | (refine gc_drw2 ?_; intro _)) | (show GO _ _ _ _ _ (⟨some _, none, _⟩ :: _) _; first | refine go_op (hk := ?_) | (refine go_nw (hk := ?_); intro u; try simp only [List.length_cons, List.length_nil, List.nil_append, Nat.zero_add]) | (refine go_np (hk := ?_); intro id)) | (show GD _ _ _ _ _ _ (⟨some _, none, _⟩ :: _) _; first | refine gd_op (hk := ?_) | (refine gd_nw (hk := ?_); intro u; try simp only [List.length_cons, List.length_nil, List.nil_append, Nat.zero_add])) | (show GD2 _ _ _ _ _ _ _ _ _ _ _ _ _; first | refine gd2_nil rfl ?_ | refine gd2_op (hk := ?_) | (refine gd2_nw (hk := ?_); intro u; try simp only [List.length_cons, List.length_nil, List.nil_append, Nat.zero_add]) | refine gd2_l (hk := ?_) | (refine gd2_bsl rfl rfl ?_; intro u; try simp only [List.length_cons, List.length_nil, List.nil_append, Nat.zero_add]) | (refine gd2_a (hk := ?_); intro u; try simp only [List.length_cons, List.length_nil, List.nil_append, Nat.zero_add])) | (show GO _ _ _ _ _ (⟨none, none, _⟩ :: _) _; refine go_st (hk := ?_)) | (show GD _ _ _ _ _ _ (⟨none, none, _⟩ :: _) _; refine gd_st (hk := ?_)) | (show GO _ _ _ _ _ (⟨_, some _, _⟩ :: _) _; first | refine go_in (hk := ?_) | refine go_out (hk := ?_) | refine go_void (hk := ?_)) | (show GK _ _ _ _ (blockK _ _ _); refine gk_past rfl ?_) | (show GC _ _ _ _ _ (.cond _ _ _) _; first | refine gc_yes (h1 := ?_) | refine gc_no (h1 := ?_))))
    have : t + 1 = n := by omega
    subst this
    refine gk_retn rfl fun H' hH => ⟨S1, rfl, hby, ?_⟩
    rw [show (idxL (t + 1)).drop (t + 1) = [] from List.drop_eq_nil_of_le (by rw [idxL_len]; omega), List.append_nil] at hH
    exact hH.sub (by exact Sub.auto)

theorem tabZ_set {n i : Nat} {f : Nat → Int} {x : Int} : (tabZ n f).set i x = tabZ n fun k => if k = i then x else f k := by
  apply List.ext_getElem
  · simp [tabZ]
  · intro k h1 h2
    rw [List.getElem_set]
    simp only [tabZ, List.getElem_map, List.getElem_range]
    by_cases e : i = k
    · rw [if_pos e, if_pos e.symm]
    · rw [if_neg e, if_neg (fun h => e h.symm)]

theorem tabZ_congr {n : Nat} {f g : Nat → Int} (h : ∀ i, i < n → f i = g i) : tabZ n f = tabZ n g := by
  unfold tabZ
  exact List.map_congr_left fun i hi => h i (List.mem_range.1 hi)

theorem tabZ_zero (n : Nat) {f : Nat → Int} (h : ∀ i, i < n → f i = 0) : List.replicate n (0 : Int) = tabZ n f := by
  rw [tabZ_congr h]
  apply List.ext_getElem
  · simp [tabZ]
  · intro k h1 h2
    simp [tabZ]

/-- a row that rises strictly below n counts -/
theorem strict_id {n : Nat} {f : Nat → Nat} (h1 : ∀ p, p < n → f p < n) (h2 : ∀ p q, p < q → q < n → f p < f q) : ∀ p, p < n → f p = p := by
  have lo : ∀ p, p < n → p ≤ f p := by
    intro p
    induction p with
    | zero => intro _; omega
    | succ p ih => intro hp; have := ih (by omega); have := h2 p (p + 1) (by omega) hp; omega
  have hi : ∀ d p, p + d + 1 = n → f p ≤ p := by
    intro d
    induction d with
    | zero => intro p hp; have := h1 p (by omega); omega
    | succ d ih => intro p hp; have := ih (p + 1) (by omega); have := h2 p (p + 1) (by omega) (by omega); omega
  intro p hp
  have := lo p hp
  have := hi (n - 1 - p) p (by omega)
  omega

/-- the index at a place -/
def atI (ys : List Int) (p : Nat) : Nat := (nth ys p).toNat

theorem BySize.at_eq {xs ys : List Int} (h : BySize xs xs.length ys) {p : Nat} (hp : p < xs.length) : nth ys p = ((atI ys p : Nat) : Int) ∧ atI ys p < xs.length := by
  have hl := h.len
  have := h.rng (i := p) (by omega)
  unfold atI
  omega

theorem BySize.pl {xs ys : List Int} (h : BySize xs xs.length ys) {p : Nat} (hp : p < xs.length) : plN xs (atI ys p) = p := by
  have hl := h.len
  refine strict_id (f := fun p => plN xs (atI ys p)) (n := xs.length) (fun p hp => pl_lt_n (h.at_eq hp).2) (fun p q hpq hq => ?_) p hp
  have h1 := h.at_eq (p := p) (by omega)
  have h2 := h.at_eq hq
  refine (pl_iff h2.2 h1.2).2 ?_
  have h3 := bef_nth h.2 hpq (by omega)
  rw [h1.1, h2.1] at h3
  unfold bef keyZ at h3
  simp only [Int.toNat_natCast] at h3
  unfold ahd
  omega

theorem BySize.inv {xs ys : List Int} (h : BySize xs xs.length ys) {i : Nat} (hi : i < xs.length) : atI ys (plN xs i) = i ∧ plN xs i < xs.length := by
  have hl := h.len
  have h1 : (i : Int) ∈ ys := h.1.mem_iff.2 (by
    unfold idxL tabZ
    exact List.mem_map.2 ⟨i, List.mem_range.2 hi, rfl⟩)
  obtain ⟨p, hp, he⟩ := List.mem_iff_getElem.1 h1
  rw [← nth_of hp] at he
  have h2 := h.pl (p := p) (by omega)
  have h3 : atI ys p = i := by unfold atI; rw [he]; simp
  rw [h3] at h2
  rw [h2]
  exact ⟨h3, by omega⟩

/- the ways, and what they make of the odds -/

inductive Way | all | down | up | share

def Way.val : Way → Int → Int → Int → Int
  | .all, x, n, _ => x * n
  | .down, x, n, p => x * (n - p)
  | .up, x, n, p => x * (n - p)
  | .share, x, n, p => (x * n + p) / (p + 1)

def gV (w : Way) (xs : List Int) (i : Nat) : Int := min (w.val (nth xs i) xs.length (plN xs i : Nat)) 1000

def pMax (h : Nat → Int) : Nat → Int
  | 0 => h 0
  | p + 1 => max (h (p + 1)) (pMax h p)

/-- the least from the end on -/
def sMin (h : Nat → Int) (n : Nat) : Nat → Int
  | 0 => h (n - 1)
  | d + 1 => min (h (n - 1 - (d + 1))) (sMin h n d)

theorem pMax_ge {h : Nat → Int} : ∀ {p q}, q ≤ p → h q ≤ pMax h p
  | 0, q, hq => by
    have : q = 0 := by omega
    subst this; exact Int.le_refl _
  | p + 1, q, hq => by
    rw [pMax]
    by_cases e : q = p + 1
    · subst e; omega
    · have := pMax_ge (h := h) (p := p) (q := q) (by omega); omega

theorem pMax_hits {h : Nat → Int} : ∀ p, ∃ q, q ≤ p ∧ pMax h p = h q
  | 0 => ⟨0, Nat.le_refl _, rfl⟩
  | p + 1 => by
    obtain ⟨q, h1, h2⟩ := pMax_hits (h := h) p
    by_cases e : pMax h p ≤ h (p + 1)
    · exact ⟨p + 1, Nat.le_refl _, by rw [pMax]; omega⟩
    · exact ⟨q, by omega, by rw [pMax]; omega⟩

theorem sMin_le {h : Nat → Int} {n : Nat} : ∀ {d q}, n - 1 - d ≤ q → q ≤ n - 1 → sMin h n d ≤ h q
  | 0, q, h1, h2 => by
    have : q = n - 1 := by omega
    subst this; exact Int.le_refl _
  | d + 1, q, h1, h2 => by
    rw [sMin]
    by_cases e : q = n - 1 - (d + 1)
    · subst e; omega
    · have := sMin_le (h := h) (n := n) (d := d) (q := q) (by omega) h2; omega

theorem sMin_hits {h : Nat → Int} {n : Nat} : ∀ d, ∃ q, n - 1 - d ≤ q ∧ q ≤ n - 1 ∧ sMin h n d = h q
  | 0 => ⟨n - 1, by omega, Nat.le_refl _, rfl⟩
  | d + 1 => by
    obtain ⟨q, h1, h2, h3⟩ := sMin_hits (h := h) (n := n) d
    by_cases e : h (n - 1 - (d + 1)) ≤ sMin h n d
    · exact ⟨n - 1 - (d + 1), by omega, by omega, by rw [sMin]; omega⟩
    · exact ⟨q, by omega, h2, by rw [sMin]; omega⟩

theorem fsT_le {xs : List Int} {i k : Nat} : ∀ {j}, k < j → plN xs i ≤ plN xs k → fsT xs i j ≤ shV xs k
  | 0, h, _ => by omega
  | j + 1, h, hp => by
    rw [fsT]
    by_cases e : k = j
    · subst e; rw [if_pos hp]; omega
    · have := fsT_le (xs := xs) (i := i) (k := k) (j := j) (by omega) hp
      split <;> omega

theorem fsT_hits {xs : List Int} {i : Nat} : ∀ j, fsT xs i j = 1000 ∨ ∃ k, k < j ∧ plN xs i ≤ plN xs k ∧ fsT xs i j = shV xs k
  | 0 => .inl rfl
  | j + 1 => by
    rw [fsT]
    split
    · rename_i hp
      rcases fsT_hits (xs := xs) (i := i) j with h | ⟨k, h1, h2, h3⟩
      · by_cases e : fsT xs i j ≤ shV xs j
        · exact .inl (by omega)
        · exact .inr ⟨j, by omega, hp, by omega⟩
      · by_cases e : fsT xs i j ≤ shV xs j
        · exact .inr ⟨k, by omega, h2, by omega⟩
        · exact .inr ⟨j, by omega, hp, by omega⟩
    · rcases fsT_hits (xs := xs) (i := i) j with h | ⟨k, h1, h2, h3⟩
      · exact .inl h
      · exact .inr ⟨k, by omega, h2, h3⟩

theorem way_down {xs ys : List Int} (hx : OddsOk xs) (hy : BySize xs xs.length ys) : (tabZ xs.length fun i => pMax (fun p => gV .down xs (atI ys p)) (plN xs i)) = dnL xs := by
  refine tabZ_congr fun i hi => ?_
  have hi2 := hy.inv hi
  have hd := dnT_in hx i (Nat.le_refl _)
  have ge : ∀ q, q ≤ plN xs i → gV .down xs (atI ys q) ≤ min (dnT xs i xs.length) 1000 := by
    intro q hq
    have h1 := hy.at_eq (p := q) (by omega)
    have h2 := hy.pl (p := q) (by omega)
    have h3 : stV xs (atI ys q) ≤ dnT xs i xs.length := dnT_ge h1.2 (by omega)
    have e : gV .down xs (atI ys q) = min (stV xs (atI ys q)) 1000 := rfl
    omega
  have h0 : 0 ≤ gV .down xs (atI ys (plN xs i)) := by
    rw [hi2.1]
    have := stV_in hx hi
    have e : gV .down xs i = min (stV xs i) 1000 := rfl
    omega
  obtain ⟨q, h1, h2⟩ := pMax_hits (h := fun p => gV .down xs (atI ys p)) (plN xs i)
  have h3 := ge q h1
  have h4 := pMax_ge (h := fun p => gV .down xs (atI ys p)) (p := plN xs i) (q := plN xs i) (Nat.le_refl _)
  have le : min (dnT xs i xs.length) 1000 ≤ pMax (fun p => gV .down xs (atI ys p)) (plN xs i) := by
    by_cases e : 1000 ≤ pMax (fun p => gV .down xs (atI ys p)) (plN xs i)
    · omega
    · have : dnT xs i xs.length ≤ pMax (fun p => gV .down xs (atI ys p)) (plN xs i) := by
        refine dnT_le (by omega) fun k hk hp => ?_
        have hk2 := hy.inv hk
        have h5 := pMax_ge (h := fun p => gV .down xs (atI ys p)) (p := plN xs i) (q := plN xs k) hp
        rw [hk2.1] at h5
        have e : gV .down xs k = min (stV xs k) 1000 := rfl
        omega
      omega
  omega

theorem way_up {xs ys : List Int} (hx : OddsOk xs) (hy : BySize xs xs.length ys) : (tabZ xs.length fun i => sMin (fun p => gV .up xs (atI ys p)) xs.length (xs.length - 1 - plN xs i)) = upL xs := by
  refine tabZ_congr fun i hi => ?_
  have hi2 := hy.inv hi
  obtain ⟨q, h1, h2, h3⟩ := sMin_hits (h := fun p => gV .up xs (atI ys p)) (n := xs.length) (xs.length - 1 - plN xs i)
  have g1 := hy.at_eq (p := q) (by omega)
  have g2 := hy.pl (p := q) (by omega)
  have e : gV .up xs (atI ys q) = min (stV xs (atI ys q)) 1000 := rfl
  have g3 : upT xs i xs.length ≤ stV xs (atI ys q) := upT_le g1.2 (by omega)
  have g4 := upT_in hx i (Nat.le_refl _)
  have g5 : sMin (fun p => gV .up xs (atI ys p)) xs.length (xs.length - 1 - plN xs i) ≤ upT xs i xs.length := by
    rcases upT_hits (xs := xs) (i := i) xs.length with h | ⟨k, k1, k2, k3⟩
    · omega
    · have hk2 := hy.inv k1
      have h5 := sMin_le (h := fun p => gV .up xs (atI ys p)) (n := xs.length) (d := xs.length - 1 - plN xs i) (q := plN xs k) (by omega) (by omega)
      rw [hk2.1] at h5
      have e : gV .up xs k = min (stV xs k) 1000 := rfl
      omega
  omega

theorem way_share {xs ys : List Int} (hx : OddsOk xs) (hy : BySize xs xs.length ys) : (tabZ xs.length fun i => sMin (fun p => gV .share xs (atI ys p)) xs.length (xs.length - 1 - plN xs i)) = fsL xs := by
  refine tabZ_congr fun i hi => ?_
  have hi2 := hy.inv hi
  obtain ⟨q, h1, h2, h3⟩ := sMin_hits (h := fun p => gV .share xs (atI ys p)) (n := xs.length) (xs.length - 1 - plN xs i)
  have g1 := hy.at_eq (p := q) (by omega)
  have g2 := hy.pl (p := q) (by omega)
  have e : gV .share xs (atI ys q) = min (shV xs (atI ys q)) 1000 := rfl
  have g3 : fsT xs i xs.length ≤ shV xs (atI ys q) := fsT_le g1.2 (by omega)
  have g4 := fsT_in hx i (Nat.le_refl _)
  have g5 : sMin (fun p => gV .share xs (atI ys p)) xs.length (xs.length - 1 - plN xs i) ≤ fsT xs i xs.length := by
    rcases fsT_hits (xs := xs) (i := i) xs.length with h | ⟨k, k1, k2, k3⟩
    · omega
    · have hk2 := hy.inv k1
      have h5 := sMin_le (h := fun p => gV .share xs (atI ys p)) (n := xs.length) (d := xs.length - 1 - plN xs i) (q := plN xs k) (by omega) (by omega)
      rw [hk2.1] at h5
      have e : gV .share xs k = min (shV xs k) 1000 := rfl
      omega
  omega

theorem SOk.apartOf {A : Heap} {X : List Nat} {S S1 S2 : Sig} {m : Nat} {H : Heap} {c d : Ch} {k : Nat} (h : SOk A X S m H) (hc : Sel S c S1) (hd : Sel S1 d S2) (hw : c.k.wr = true) (h1 : c.v.bid = some k) : d.v.bid ≠ some k :=
  (List.pairwise_cons.1 (h.sel hc).ap).1 d hd.mem.1 (.inl hw) k h1

theorem stableCmp_ok {A : Heap} {X : List Nat} {S S0 : Sig} {H : Heap} {v a : AV} {xs : List Int} {p n : Nat} {b : Bool} (hS : SOk A X S H.size H) (hs : Sel S (.rwI v n (idxL n)) S0) (hR : SubF S0 [.roI a xs.length xs]) (hp : H.get p = some ⟨b, [a]⟩ ∧ p < H.size) (hne : v.bid ≠ some p) (hn : n = xs.length) (h1 : 1 ≤ n) (hl : n ≤ 19) :
    ACalls Try.prog fn_slices_stableCmpFunc_int [v, .int .i64 (n : Int), .func fn_impl_bySize_1 [.ptr p 0]] H fun r H' => ∃ ys : List Int, r = .tuple [] ∧ SOk A X (.rwI v n ys :: S0) H'.size H' ∧ BySize xs n ys := by
  refine gowx code_slices_stableCmpFunc_int (V := fun _ : List Int => .tuple []) (T := fun _ => []) (C := fun ys => .rwI v n ys) (Φ := fun ys => BySize xs n ys) hS hs rfl hR rfl (fun _ => rfl) (fun _ => rfl) (fun _ => rfl) (by simp) ?_
  intro X' hX'
  have hpX : p ∉ X' := fun h => hne (hX' p h)
  unfold mc_slices_stableCmpFunc_int
  (repeat (first | with_reducible (first | refine go_nil ?_ | refine gk_seq ?_ | refine gc_seq ?_ | refine gc_reg ?_ | refine gc_skip ?_ | refine gk_block ?_ | refine gc_block ?_ | refine gc_exit ?_ | refine gc_ret ?_ | refine gk_seqret ?_ | refine gk_seqexit ?_ | refine gk_blockret ?_ | refine gk_out ?_ | refine gk_loopret ?_ | refine gk_loopexit ?_) | (show GO _ _ _ _ _ (⟨some _, none, _⟩ :: _) _; first | refine go_op (hk := ?_) | (refine go_nw (hk := ?_); intro u; try simp only [List.length_cons, List.length_nil, List.nil_append, Nat.zero_add]) | (refine go_np (hk := ?_); intro id)) | (show GO _ _ _ _ _ (⟨none, none, _⟩ :: _) _; refine go_st (hk := ?_)) | (show GO _ _ _ _ _ (⟨_, some _, _⟩ :: _) _; first | refine go_in (hk := ?_) | refine go_out (hk := ?_) | refine go_void (hk := ?_)) | (show GK _ _ _ _ (blockK _ _ _); refine gk_past rfl ?_) | (show GC _ _ _ _ _ (.cond _ _ _) _; first | refine gc_yes (h1 := ?_) | refine gc_no (h1 := ?_))))
  refine gc_loop (γ := Unit) (fun _ => [(0, v), (1, .int .i64 (n : Int)), (2, .func fn_impl_bySize_1 [.ptr p 0]), (6, .int .i64 20), (7, .int .i64 0), (8, .int .i64 20)]) (fun _ => [.rwI v n (idxL n), .roI a xs.length xs]) (fun _ => True) (fun _ => 0) () trivial (hb := ?_)
  intro g _ I ν m hnx
  (repeat (first | with_reducible (first | refine go_nil ?_ | refine gk_seq ?_ | refine gc_seq ?_ | refine gc_reg ?_ | refine gc_skip ?_ | refine gk_block ?_ | refine gc_block ?_ | refine gc_exit ?_ | refine gc_ret ?_ | refine gk_seqret ?_ | refine gk_seqexit ?_ | refine gk_blockret ?_ | refine gk_out ?_ | refine gk_loopret ?_ | refine gk_loopexit ?_) | (show GO _ _ _ _ _ (⟨some _, none, _⟩ :: _) _; first | refine go_op (hk := ?_) | (refine go_nw (hk := ?_); intro u; try simp only [List.length_cons, List.length_nil, List.nil_append, Nat.zero_add]) | (refine go_np (hk := ?_); intro id)) | (show GO _ _ _ _ _ (⟨none, none, _⟩ :: _) _; refine go_st (hk := ?_)) | (show GO _ _ _ _ _ (⟨_, some _, _⟩ :: _) _; first | refine go_in (hk := ?_) | refine go_out (hk := ?_) | refine go_void (hk := ?_)) | (show GK _ _ _ _ (blockK _ _ _); refine gk_past rfl ?_) | (show GC _ _ _ _ _ (.cond _ _ _) _; first | refine gc_yes (h1 := ?_) | refine gc_no (h1 := ?_))))
  refine gc_cond rfl (fun h => by omega) (fun h => ?_)
  (repeat (first | with_reducible (first | refine go_nil ?_ | refine gk_seq ?_ | refine gc_seq ?_ | refine gc_reg ?_ | refine gc_skip ?_ | refine gk_block ?_ | refine gc_block ?_ | refine gc_exit ?_ | refine gc_ret ?_ | refine gk_seqret ?_ | refine gk_seqexit ?_ | refine gk_blockret ?_ | refine gk_out ?_ | refine gk_loopret ?_ | refine gk_loopexit ?_) | (show GO _ _ _ _ _ (⟨some _, none, _⟩ :: _) _; first | refine go_op (hk := ?_) | (refine go_nw (hk := ?_); intro u; try simp only [List.length_cons, List.length_nil, List.nil_append, Nat.zero_add]) | (refine go_np (hk := ?_); intro id)) | (show GO _ _ _ _ _ (⟨none, none, _⟩ :: _) _; refine go_st (hk := ?_)) | (show GO _ _ _ _ _ (⟨_, some _, _⟩ :: _) _; first | refine go_in (hk := ?_) | refine go_out (hk := ?_) | refine go_void (hk := ?_)) | (show GK _ _ _ _ (blockK _ _ _); refine gk_past rfl ?_) | (show GC _ _ _ _ _ (.cond _ _ _) _; first | refine gc_yes (h1 := ?_) | refine gc_no (h1 := ?_))))
  refine go_callg rfl code_slices_insertionSortCmpFunc_int.callable (fun H hH => insCmp_ok hH (by exact Sel.auto) (by exact SubF.auto) (SOk.cellX hH hp hpX) hne hn h1 hl) ?_
  intro ys hys
  (repeat (first | with_reducible (first | refine go_nil ?_ | refine gk_seq ?_ | refine gc_seq ?_ | refine gc_reg ?_ | refine gc_skip ?_ | refine gk_block ?_ | refine gc_block ?_ | refine gc_exit ?_ | refine gc_ret ?_ | refine gk_seqret ?_ | refine gk_seqexit ?_ | refine gk_blockret ?_ | refine gk_out ?_ | refine gk_loopret ?_ | refine gk_loopexit ?_) | (show GO _ _ _ _ _ (⟨some _, none, _⟩ :: _) _; first | refine go_op (hk := ?_) | (refine go_nw (hk := ?_); intro u; try simp only [List.length_cons, List.length_nil, List.nil_append, Nat.zero_add]) | (refine go_np (hk := ?_); intro id)) | (show GO _ _ _ _ _ (⟨none, none, _⟩ :: _) _; refine go_st (hk := ?_)) | (show GO _ _ _ _ _ (⟨_, some _, _⟩ :: _) _; first | refine go_in (hk := ?_) | refine go_out (hk := ?_) | refine go_void (hk := ?_)) | (show GK _ _ _ _ (blockK _ _ _); refine gk_past rfl ?_) | (show GC _ _ _ _ _ (.cond _ _ _) _; first | refine gc_yes (h1 := ?_) | refine gc_no (h1 := ?_))))
  refine gc_loop (γ := Unit) (fun _ => [(0, v), (1, .int .i64 (n : Int)), (2, .func fn_impl_bySize_1 [.ptr p 0]), (6, .int .i64 20)]) (fun _ => [.rwI v n ys, .roI a xs.length xs]) (fun _ => True) (fun _ => 0) () trivial (hb := ?_)
  intro g _ I ν m hnx
  (repeat (first | with_reducible (first | refine go_nil ?_ | refine gk_seq ?_ | refine gc_seq ?_ | refine gc_reg ?_ | refine gc_skip ?_ | refine gk_block ?_ | refine gc_block ?_ | refine gc_exit ?_ | refine gc_ret ?_ | refine gk_seqret ?_ | refine gk_seqexit ?_ | refine gk_blockret ?_ | refine gk_out ?_ | refine gk_loopret ?_ | refine gk_loopexit ?_) | (show GO _ _ _ _ _ (⟨some _, none, _⟩ :: _) _; first | refine go_op (hk := ?_) | (refine go_nw (hk := ?_); intro u; try simp only [List.length_cons, List.length_nil, List.nil_append, Nat.zero_add]) | (refine go_np (hk := ?_); intro id)) | (show GO _ _ _ _ _ (⟨none, none, _⟩ :: _) _; refine go_st (hk := ?_)) | (show GO _ _ _ _ _ (⟨_, some _, _⟩ :: _) _; first | refine go_in (hk := ?_) | refine go_out (hk := ?_) | refine go_void (hk := ?_)) | (show GK _ _ _ _ (blockK _ _ _); refine gk_past rfl ?_) | (show GC _ _ _ _ _ (.cond _ _ _) _; first | refine gc_yes (h1 := ?_) | refine gc_no (h1 := ?_))))
  refine gc_cond rfl (fun h => by omega) (fun h => ?_)
  (repeat (first | with_reducible (first | refine go_nil ?_ | refine gk_seq ?_ | refine gc_seq ?_ | refine gc_reg ?_ | refine gc_skip ?_ | refine gk_block ?_ | refine gc_block ?_ | refine gc_exit ?_ | refine gc_ret ?_ | refine gk_seqret ?_ | refine gk_seqexit ?_ | refine gk_blockret ?_ | refine gk_out ?_ | refine gk_loopret ?_ | refine gk_loopexit ?_) | (show GO _ _ _ _ _ (⟨some _, none, _⟩ :: _) _; first | refine go_op (hk := ?_) | (refine go_nw (hk := ?_); intro u; try simp only [List.length_cons, List.length_nil, List.nil_append, Nat.zero_add]) | (refine go_np (hk := ?_); intro id)) | (show GO _ _ _ _ _ (⟨none, none, _⟩ :: _) _; refine go_st (hk := ?_)) | (show GO _ _ _ _ _ (⟨_, some _, _⟩ :: _) _; first | refine go_in (hk := ?_) | refine go_out (hk := ?_) | refine go_void (hk := ?_)) | (show GK _ _ _ _ (blockK _ _ _); refine gk_past rfl ?_) | (show GC _ _ _ _ _ (.cond _ _ _) _; first | refine gc_yes (h1 := ?_) | refine gc_no (h1 := ?_))))
  exact gk_retn rfl fun H' hH => ⟨ys, rfl, hys, hH.sub (by exact Sub.auto)⟩

theorem sortStable_ok {A : Heap} {X : List Nat} {S S0 : Sig} {H : Heap} {v a : AV} {xs : List Int} {p n : Nat} {b : Bool} (hS : SOk A X S H.size H) (hs : Sel S (.rwI v n (idxL n)) S0) (hR : SubF S0 [.roI a xs.length xs]) (hp : H.get p = some ⟨b, [a]⟩ ∧ p < H.size) (hne : v.bid ≠ some p) (hn : n = xs.length) (h1 : 1 ≤ n) (hl : n ≤ 19) :
    ACalls Try.prog fn_slices_SortStableFunc_ints [v, .func fn_impl_bySize_1 [.ptr p 0]] H fun r H' => ∃ ys : List Int, r = .tuple [] ∧ SOk A X (.rwI v n ys :: S0) H'.size H' ∧ BySize xs n ys := by
  refine gowx code_slices_SortStableFunc_ints (V := fun _ : List Int => .tuple []) (T := fun _ => []) (C := fun ys => .rwI v n ys) (Φ := fun ys => BySize xs n ys) hS hs rfl hR rfl (fun _ => rfl) (fun _ => rfl) (fun _ => rfl) (by simp) ?_
  intro X' hX'
  have hpX : p ∉ X' := fun h => hne (hX' p h)
  unfold mc_slices_SortStableFunc_ints
  (repeat (first | with_reducible (first | refine go_nil ?_ | refine gk_seq ?_ | refine gc_seq ?_ | refine gc_reg ?_ | refine gc_skip ?_ | refine gk_block ?_ | refine gc_block ?_ | refine gc_exit ?_ | refine gc_ret ?_ | refine gk_seqret ?_ | refine gk_seqexit ?_ | refine gk_blockret ?_ | refine gk_out ?_ | refine gk_loopret ?_ | refine gk_loopexit ?_) | (show GO _ _ _ _ _ (⟨some _, none, _⟩ :: _) _; first | refine go_op (hk := ?_) | (refine go_nw (hk := ?_); intro u; try simp only [List.length_cons, List.length_nil, List.nil_append, Nat.zero_add]) | (refine go_np (hk := ?_); intro id)) | (show GO _ _ _ _ _ (⟨none, none, _⟩ :: _) _; refine go_st (hk := ?_)) | (show GO _ _ _ _ _ (⟨_, some _, _⟩ :: _) _; first | refine go_in (hk := ?_) | refine go_out (hk := ?_) | refine go_void (hk := ?_)) | (show GK _ _ _ _ (blockK _ _ _); refine gk_past rfl ?_) | (show GC _ _ _ _ _ (.cond _ _ _) _; first | refine gc_yes (h1 := ?_) | refine gc_no (h1 := ?_))))
  refine go_callg rfl code_slices_stableCmpFunc_int.callable (fun H hH => stableCmp_ok hH (by exact Sel.auto) (by exact SubF.auto) (SOk.cellX hH hp hpX) hne hn h1 hl) ?_
  intro ys hys
  (repeat (first | with_reducible (first | refine go_nil ?_ | refine gk_seq ?_ | refine gc_seq ?_ | refine gc_reg ?_ | refine gc_skip ?_ | refine gk_block ?_ | refine gc_block ?_ | refine gc_exit ?_ | refine gc_ret ?_ | refine gk_seqret ?_ | refine gk_seqexit ?_ | refine gk_blockret ?_ | refine gk_out ?_ | refine gk_loopret ?_ | refine gk_loopexit ?_) | (show GO _ _ _ _ _ (⟨some _, none, _⟩ :: _) _; first | refine go_op (hk := ?_) | (refine go_nw (hk := ?_); intro u; try simp only [List.length_cons, List.length_nil, List.nil_append, Nat.zero_add]) | (refine go_np (hk := ?_); intro id)) | (show GO _ _ _ _ _ (⟨none, none, _⟩ :: _) _; refine go_st (hk := ?_)) | (show GO _ _ _ _ _ (⟨_, some _, _⟩ :: _) _; first | refine go_in (hk := ?_) | refine go_out (hk := ?_) | refine go_void (hk := ?_)) | (show GK _ _ _ _ (blockK _ _ _); refine gk_past rfl ?_) | (show GC _ _ _ _ _ (.cond _ _ _) _; first | refine gc_yes (h1 := ?_) | refine gc_no (h1 := ?_))))
  exact gk_retn rfl fun H' hH => ⟨ys, rfl, hys, hH.sub (by exact Sub.auto)⟩

theorem bySize_ok {A : Heap} {X : List Nat} {S : Sig} {H : Heap} {a : AV} {xs : List Int} (hS : SOk A X S H.size H) (hh : Has S a 1 xs.length (ints xs)) (hx : OddsOk xs) :
    ACalls Try.prog fn_impl_bySize [a] H fun r H' => ∃ g : AV × List Int, r = g.1 ∧ SOk A X ([.rwI g.1 xs.length g.2] ++ S) H'.size H' ∧ BySize xs xs.length g.2 := by
  refine code_impl_bySize.gon (V := fun g : AV × List Int => g.1) (T := fun g => [.rwI g.1 xs.length g.2]) (Φ := fun g => BySize xs xs.length g.2) hS (R := [.roI a xs.length xs]) ⟨⟨rfl, hS.ints hh⟩, trivial⟩ (fun _ => rfl) (by simp) ?_
  have hn : xs.length ≤ 6 := hx.2.2
  have hn1 : 1 ≤ xs.length := hx.2.1
  unfold mc_impl_bySize
  (repeat (first | with_reducible (first | refine go_nil ?_ | refine gk_seq ?_ | refine gc_seq ?_ | refine gc_reg ?_ | refine gc_skip ?_ | refine gk_block ?_ | refine gc_block ?_ | refine gc_exit ?_ | refine gc_ret ?_ | refine gk_seqret ?_ | refine gk_seqexit ?_ | refine gk_blockret ?_ | refine gk_out ?_ | refine gk_loopret ?_ | refine gk_loopexit ?_) | (show GO _ _ _ _ _ (⟨some _, none, _⟩ :: _) _; first | refine go_op (hk := ?_) | (refine go_nw (hk := ?_); intro u; try simp only [List.length_cons, List.length_nil, List.nil_append, Nat.zero_add]) | (refine go_np (hk := ?_); intro id)) | (show GO _ _ _ _ _ (⟨none, none, _⟩ :: _) _; refine go_st (hk := ?_)) | (show GO _ _ _ _ _ (⟨_, some _, _⟩ :: _) _; first | refine go_in (hk := ?_) | refine go_out (hk := ?_) | refine go_void (hk := ?_)) | (show GK _ _ _ _ (blockK _ _ _); refine gk_past rfl ?_) | (show GC _ _ _ _ _ (.cond _ _ _) _; first | refine gc_yes (h1 := ?_) | refine gc_no (h1 := ?_))))
  refine go_newp rfl (stp_boxv rfl (by exact Has.auto)) (fun pc => ?_)
  (repeat (first | with_reducible (first | refine go_nil ?_ | refine gk_seq ?_ | refine gc_seq ?_ | refine gc_reg ?_ | refine gc_skip ?_ | refine gk_block ?_ | refine gc_block ?_ | refine gc_exit ?_ | refine gc_ret ?_ | refine gk_seqret ?_ | refine gk_seqexit ?_ | refine gk_blockret ?_ | refine gk_out ?_ | refine gk_loopret ?_ | refine gk_loopexit ?_) | (show GO _ _ _ _ _ (⟨some _, none, _⟩ :: _) _; first | refine go_op (hk := ?_) | (refine go_nw (hk := ?_); intro u; try simp only [List.length_cons, List.length_nil, List.nil_append, Nat.zero_add]) | (refine go_np (hk := ?_); intro id)) | (show GO _ _ _ _ _ (⟨none, none, _⟩ :: _) _; refine go_st (hk := ?_)) | (show GO _ _ _ _ _ (⟨_, some _, _⟩ :: _) _; first | refine go_in (hk := ?_) | refine go_out (hk := ?_) | refine go_void (hk := ?_)) | (show GK _ _ _ _ (blockK _ _ _); refine gk_past rfl ?_) | (show GC _ _ _ _ _ (.cond _ _ _) _; first | refine gc_yes (h1 := ?_) | refine gc_no (h1 := ?_))))
  rw [tabZ_zero xs.length (f := fun k => if k < 0 then (k : Int) else 0) (fun i _ => if_neg (by omega))]
  refine gc_up xs.length (fun i => [(1, .ptr pc 0), (3, u), (9, .int .i64 (xs.length : Int)), (10, .int .i64 (i : Int))]) (fun i => [.rwI u xs.length (tabZ xs.length fun k => if k < i then (k : Int) else 0), ⟨.cell, .ptr pc 0, 1, 1, [a]⟩, .roI a xs.length xs]) (hb := ?_)
  intro i hi I ν m hk
  (repeat (first | with_reducible (first | refine go_nil ?_ | refine gk_seq ?_ | refine gc_seq ?_ | refine gc_reg ?_ | refine gc_skip ?_ | refine gk_block ?_ | refine gc_block ?_ | refine gc_exit ?_ | refine gc_ret ?_ | refine gk_seqret ?_ | refine gk_seqexit ?_ | refine gk_blockret ?_ | refine gk_out ?_ | refine gk_loopret ?_ | refine gk_loopexit ?_) | (show GO _ _ _ _ _ (⟨some _, none, _⟩ :: _) _; first | refine go_op (hk := ?_) | (refine go_nw (hk := ?_); intro u; try simp only [List.length_cons, List.length_nil, List.nil_append, Nat.zero_add]) | (refine go_np (hk := ?_); intro id)) | (show GO _ _ _ _ _ (⟨none, none, _⟩ :: _) _; refine go_st (hk := ?_)) | (show GO _ _ _ _ _ (⟨_, some _, _⟩ :: _) _; first | refine go_in (hk := ?_) | refine go_out (hk := ?_) | refine go_void (hk := ?_)) | (show GK _ _ _ _ (blockK _ _ _); refine gk_past rfl ?_) | (show GC _ _ _ _ _ (.cond _ _ _) _; first | refine gc_yes (h1 := ?_) | refine gc_no (h1 := ?_))))
  refine gc_cond rfl (fun h => ?_) (fun h => ?_)
  · have hk := hk (by omega)
    (repeat (first | with_reducible (first | refine go_nil ?_ | refine gk_seq ?_ | refine gc_seq ?_ | refine gc_reg ?_ | refine gc_skip ?_ | refine gk_block ?_ | refine gc_block ?_ | refine gc_exit ?_ | refine gc_ret ?_ | refine gk_seqret ?_ | refine gk_seqexit ?_ | refine gk_blockret ?_ | refine gk_out ?_ | refine gk_loopret ?_ | refine gk_loopexit ?_) | (show GO _ _ _ _ _ (⟨some _, none, _⟩ :: _) _; first | refine go_op (hk := ?_) | (refine go_nw (hk := ?_); intro u; try simp only [List.length_cons, List.length_nil, List.nil_append, Nat.zero_add]) | (refine go_np (hk := ?_); intro id)) | (show GO _ _ _ _ _ (⟨none, none, _⟩ :: _) _; refine go_st (hk := ?_)) | (show GO _ _ _ _ _ (⟨_, some _, _⟩ :: _) _; first | refine go_in (hk := ?_) | refine go_out (hk := ?_) | refine go_void (hk := ?_)) | (show GK _ _ _ _ (blockK _ _ _); refine gk_past rfl ?_) | (show GC _ _ _ _ _ (.cond _ _ _) _; first | refine gc_yes (h1 := ?_) | refine gc_no (h1 := ?_))))
    rw [tabZ_set, tabZ_congr (g := fun k => if k < i + 1 then (k : Int) else 0) (fun k hk => by
      by_cases e : k = i
      · subst e; rw [if_pos rfl, if_pos (by omega)]
      · rw [if_neg e]
        by_cases e2 : k < i
        · rw [if_pos e2, if_pos (by omega)]
        · rw [if_neg e2, if_neg (by omega)])]
    exact gk_next hk
  · have : i = xs.length := by omega
    subst this
    rw [tabZ_congr (g := fun k => (k : Int)) (fun k hk => if_pos hk)]
    (repeat (first | with_reducible (first | refine go_nil ?_ | refine gk_seq ?_ | refine gc_seq ?_ | refine gc_reg ?_ | refine gc_skip ?_ | refine gk_block ?_ | refine gc_block ?_ | refine gc_exit ?_ | refine gc_ret ?_ | refine gk_seqret ?_ | refine gk_seqexit ?_ | refine gk_blockret ?_ | refine gk_out ?_ | refine gk_loopret ?_ | refine gk_loopexit ?_) | (show GO _ _ _ _ _ (⟨some _, none, _⟩ :: _) _; first | refine go_op (hk := ?_) | (refine go_nw (hk := ?_); intro u; try simp only [List.length_cons, List.length_nil, List.nil_append, Nat.zero_add]) | (refine go_np (hk := ?_); intro id)) | (show GO _ _ _ _ _ (⟨none, none, _⟩ :: _) _; refine go_st (hk := ?_)) | (show GO _ _ _ _ _ (⟨_, some _, _⟩ :: _) _; first | refine go_in (hk := ?_) | refine go_out (hk := ?_) | refine go_void (hk := ?_)) | (show GK _ _ _ _ (blockK _ _ _); refine gk_past rfl ?_) | (show GC _ _ _ _ _ (.cond _ _ _) _; first | refine gc_yes (h1 := ?_) | refine gc_no (h1 := ?_))))
    refine go_callg rfl code_slices_SortStableFunc_ints.callable (fun H hH => sortStable_ok (n := xs.length) hH (by exact Sel.auto) (by exact SubF.auto) (hH.cellAt (by exact Sel.auto)) (SOk.apartOf (c := ⟨.cell, .ptr pc 0, 1, 1, [a]⟩) (d := .rwI u xs.length (idxL xs.length)) hH (by exact Sel.auto) (by exact Sel.auto) rfl rfl) rfl hn1 (by omega)) ?_
    intro ys hys
    (repeat (first | with_reducible (first | refine go_nil ?_ | refine gk_seq ?_ | refine gc_seq ?_ | refine gc_reg ?_ | refine gc_skip ?_ | refine gk_block ?_ | refine gc_block ?_ | refine gc_exit ?_ | refine gc_ret ?_ | refine gk_seqret ?_ | refine gk_seqexit ?_ | refine gk_blockret ?_ | refine gk_out ?_ | refine gk_loopret ?_ | refine gk_loopexit ?_) | (show GO _ _ _ _ _ (⟨some _, none, _⟩ :: _) _; first | refine go_op (hk := ?_) | (refine go_nw (hk := ?_); intro u; try simp only [List.length_cons, List.length_nil, List.nil_append, Nat.zero_add]) | (refine go_np (hk := ?_); intro id)) | (show GO _ _ _ _ _ (⟨none, none, _⟩ :: _) _; refine go_st (hk := ?_)) | (show GO _ _ _ _ _ (⟨_, some _, _⟩ :: _) _; first | refine go_in (hk := ?_) | refine go_out (hk := ?_) | refine go_void (hk := ?_)) | (show GK _ _ _ _ (blockK _ _ _); refine gk_past rfl ?_) | (show GC _ _ _ _ _ (.cond _ _ _) _; first | refine gc_yes (h1 := ?_) | refine gc_no (h1 := ?_))))
    exact gk_ret rfl fun H' hH => ⟨(u, ys), rfl, hys, hH.sub (by exact Sub.auto)⟩

/- the ways' methods -/

def Way.fn : Way → FuncId
  | .all => fn_impl_allAtOnce_raised
  | .down => fn_impl_stepsDown_raised
  | .up => fn_impl_stepsUp_raised
  | .share => fn_impl_shares_raised

end Go.Rx.Try
