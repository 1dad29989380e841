import Derived.Test.YtpibmmkghedmaacFnPathsWithinCode
import Derived.Test.YtpibmmkghedmaacRxJ
namespace Go.Rx.Try
open Go.Proofs
set_option maxRecDepth 100000
set_option maxHeartbeats 8000000
set_option linter.unusedSimpArgs false
set_option linter.unusedVariables false

theorem inRange_ok {H : Heap} {a b n : Int} : ACalls Try.prog fn_spec_inRange [.int .i64 n, .int .i64 a, .int .i64 b] H fun r H' => r = .bool (decide (a ≤ n ∧ n ≤ b)) ∧ H' = H := by
  refine ACalls.val ?_ rfl
  refine code_spec_inRange.go [] trivial (by simp) ?_
  unfold mc_spec_inRange
  (repeat (first | with_reducible (first | refine go_nil ?_ | refine gk_seq ?_ | refine gc_seq ?_ | refine gc_reg ?_ | refine gc_skip ?_ | refine gk_block ?_ | refine gc_block ?_ | refine gc_exit ?_ | refine gc_ret ?_ | refine gk_seqret ?_ | refine gk_seqexit ?_ | refine gk_blockret ?_ | refine gk_out ?_ | refine gk_loopret ?_ | refine gk_loopexit ?_) | (show GO _ _ _ _ _ (⟨some _, none, _⟩ :: _) _; first | refine go_op (hk := ?_) | (refine go_nw (hk := ?_); intro u; try simp only [List.length_cons, List.length_nil, List.nil_append, Nat.zero_add]) | (refine go_np (hk := ?_); intro id)) | (show GO _ _ _ _ _ (⟨none, none, _⟩ :: _) _; refine go_st (hk := ?_)) | (show GO _ _ _ _ _ (⟨_, some _, _⟩ :: _) _; first | refine go_in (hk := ?_) | refine go_out (hk := ?_) | refine go_void (hk := ?_)) | (show GK _ _ _ _ (blockK _ _ _); refine gk_past rfl ?_) | (show GC _ _ _ _ _ (.cond _ _ _) _; first | refine gc_yes (h1 := ?_) | refine gc_no (h1 := ?_))))
  refine go_split 10 rfl (fun h => ?_) (fun h => ?_)
  · (repeat (first | with_reducible (first | refine go_nil ?_ | refine gk_seq ?_ | refine gc_seq ?_ | refine gc_reg ?_ | refine gc_skip ?_ | refine gk_block ?_ | refine gc_block ?_ | refine gc_exit ?_ | refine gc_ret ?_ | refine gk_seqret ?_ | refine gk_seqexit ?_ | refine gk_blockret ?_ | refine gk_out ?_ | refine gk_loopret ?_ | refine gk_loopexit ?_) | (show GO _ _ _ _ _ (⟨some _, none, _⟩ :: _) _; first | refine go_op (hk := ?_) | (refine go_nw (hk := ?_); intro u; try simp only [List.length_cons, List.length_nil, List.nil_append, Nat.zero_add]) | (refine go_np (hk := ?_); intro id)) | (show GO _ _ _ _ _ (⟨none, none, _⟩ :: _) _; refine go_st (hk := ?_)) | (show GO _ _ _ _ _ (⟨_, some _, _⟩ :: _) _; first | refine go_in (hk := ?_) | refine go_out (hk := ?_) | refine go_void (hk := ?_)) | (show GK _ _ _ _ (blockK _ _ _); refine gk_past rfl ?_) | (show GC _ _ _ _ _ (.cond _ _ _) _; first | refine gc_yes (h1 := ?_) | refine gc_no (h1 := ?_))))
    refine gk_ret rfl fun H' hH => ⟨?_, hH.leE⟩
    simp [tupleOf, h]
  · (repeat (first | with_reducible (first | refine go_nil ?_ | refine gk_seq ?_ | refine gc_seq ?_ | refine gc_reg ?_ | refine gc_skip ?_ | refine gk_block ?_ | refine gc_block ?_ | refine gc_exit ?_ | refine gc_ret ?_ | refine gk_seqret ?_ | refine gk_seqexit ?_ | refine gk_blockret ?_ | refine gk_out ?_ | refine gk_loopret ?_ | refine gk_loopexit ?_) | (show GO _ _ _ _ _ (⟨some _, none, _⟩ :: _) _; first | refine go_op (hk := ?_) | (refine go_nw (hk := ?_); intro u; try simp only [List.length_cons, List.length_nil, List.nil_append, Nat.zero_add]) | (refine go_np (hk := ?_); intro id)) | (show GO _ _ _ _ _ (⟨none, none, _⟩ :: _) _; refine go_st (hk := ?_)) | (show GO _ _ _ _ _ (⟨_, some _, _⟩ :: _) _; first | refine go_in (hk := ?_) | refine go_out (hk := ?_) | refine go_void (hk := ?_)) | (show GK _ _ _ _ (blockK _ _ _); refine gk_past rfl ?_) | (show GC _ _ _ _ _ (.cond _ _ _) _; first | refine gc_yes (h1 := ?_) | refine gc_no (h1 := ?_))))
    refine gk_ret rfl fun H' hH => ⟨?_, hH.leE⟩
    simp [tupleOf, h]

theorem go_inRange {A : Heap} {X : List Nat} {E : List (Nat × AV)} {S : Sig} {K : St → Prop} {r : List MI} {d : Nat} {x y z : MX} {n a b : Int} (hx : evE E x = some (.int .i64 n) := by exact rfl) (hy : evE E y = some (.int .i64 a) := by exact rfl) (hz : evE E z = some (.int .i64 b) := by exact rfl)
    (hk : GO Try.prog A X ((d, .bool (decide (a ≤ n ∧ n ≤ b))) :: E) S r K) : GO Try.prog A X E S (⟨some d, none, .call fn_spec_inRange [x, y, z]⟩ :: r) K :=
  go_callp (by simp only [evsE, hx, hy, hz]) code_spec_inRange.callable (fun H hH => inRange_ok) hk

theorem bool_yes {q : Prop} [Decidable q] (h : q) : AV.bool true = AV.bool (decide q) := by
  rw [decide_eq_true h]

/-- a reader: its bytes, and its place -/
abbrev rdr (id : Nat) (bv : AV) (p : Nat) : Ch := ⟨.cell, .ptr id 0, 2, 1, [bv, .int .i64 (p : Int)]⟩

abbrev byt (bv : AV) (bs : List Int) : Ch := ⟨.ro, bv, 1, bs.length, bytesL bs⟩

def ByteOk (bs : List Int) : Prop := bs.length ≤ 2000 ∧ ∀ i, 0 ≤ nth bs i ∧ nth bs i ≤ 255

theorem pick_ok {A : Heap} {X : List Nat} {S S0 : Sig} {H : Heap} {id p : Nat} {bv : AV} {bs : List Int} {n : Int} (hS : SOk A X S H.size H) (hs : Sel S (rdr id bv p) S0) (hR : SubF S0 [byt bv bs]) (hb : ByteOk bs) (hp : p ≤ 1000000000) :
    ACalls Try.prog fn_spec_reader_pick [.ptr id 0, .int .i64 n] H fun r H' => ∃ x : Int, r = .int .i64 x ∧ SOk A X (rdr id bv (p + 1) :: S0) H'.size H' ∧ (0 ≤ x ∧ (x < n ∨ x = 0)) := by
  refine code_spec_reader_pick.gowg (T := fun _ => []) (C := fun _ => rdr id bv (p + 1)) hS hs rfl hR rfl (fun _ => rfl) (fun _ => rfl) (fun _ => rfl) (by simp) ?_
  intro X'
  unfold mc_spec_reader_pick
  (repeat (first | with_reducible (first | refine go_nil ?_ | refine gk_seq ?_ | refine gc_seq ?_ | refine gc_reg ?_ | refine gc_skip ?_ | refine gk_block ?_ | refine gc_block ?_ | refine gc_exit ?_ | refine gc_ret ?_ | refine gk_seqret ?_ | refine gk_seqexit ?_ | refine gk_blockret ?_ | refine gk_out ?_ | refine gk_loopret ?_ | refine gk_loopexit ?_ | refine gq_nil ?_) | (with_reducible refine gc_drq ?_; intro _) | (show GO _ _ _ _ _ (⟨some _, none, _⟩ :: _) _; first | refine go_op (hk := ?_) | (refine go_nw (hk := ?_); intro u; try simp only [List.length_cons, List.length_nil, List.nil_append, Nat.zero_add]) | (refine go_np (hk := ?_); intro id)) | (show GQ _ _ _ _ _ _ _ (⟨some _, none, _⟩ :: _) _; first | refine gq_op (hk := ?_) | (refine gq_nw (hk := ?_); intro u; try simp only [List.length_cons, List.length_nil, List.nil_append, Nat.zero_add])) | (show GO _ _ _ _ _ (⟨none, none, _⟩ :: _) _; refine go_st (hk := ?_)) | (show GO _ _ _ _ _ (⟨_, some _, _⟩ :: _) _; first | refine go_in (hk := ?_) | refine go_out (hk := ?_) | refine go_void (hk := ?_)) | (show GQ _ _ _ _ _ _ _ (⟨_, some _, _⟩ :: _) _; first | refine gq_in (hk := ?_) | refine gq_out (hk := ?_) | refine gq_void (hk := ?_)) | (show GK _ _ _ _ (blockK _ _ _); refine gk_past rfl ?_) | (show GC _ _ _ _ _ (.cond _ _ _) _; first | refine gc_yes (h1 := ?_) | refine gc_no (h1 := ?_))))
  have hb1 := hb.1
  refine go_split 17 rfl (fun h => ?_) (fun h => ?_)
  · (repeat (first | with_reducible (first | refine go_nil ?_ | refine gk_seq ?_ | refine gc_seq ?_ | refine gc_reg ?_ | refine gc_skip ?_ | refine gk_block ?_ | refine gc_block ?_ | refine gc_exit ?_ | refine gc_ret ?_ | refine gk_seqret ?_ | refine gk_seqexit ?_ | refine gk_blockret ?_ | refine gk_out ?_ | refine gk_loopret ?_ | refine gk_loopexit ?_ | refine gq_nil ?_) | (with_reducible refine gc_drq ?_; intro _) | (show GO _ _ _ _ _ (⟨some _, none, _⟩ :: _) _; first | refine go_op (hk := ?_) | (refine go_nw (hk := ?_); intro u; try simp only [List.length_cons, List.length_nil, List.nil_append, Nat.zero_add]) | (refine go_np (hk := ?_); intro id)) | (show GQ _ _ _ _ _ _ _ (⟨some _, none, _⟩ :: _) _; first | refine gq_op (hk := ?_) | (refine gq_nw (hk := ?_); intro u; try simp only [List.length_cons, List.length_nil, List.nil_append, Nat.zero_add])) | (show GO _ _ _ _ _ (⟨none, none, _⟩ :: _) _; refine go_st (hk := ?_)) | (show GO _ _ _ _ _ (⟨_, some _, _⟩ :: _) _; first | refine go_in (hk := ?_) | refine go_out (hk := ?_) | refine go_void (hk := ?_)) | (show GQ _ _ _ _ _ _ _ (⟨_, some _, _⟩ :: _) _; first | refine gq_in (hk := ?_) | refine gq_out (hk := ?_) | refine gq_void (hk := ?_)) | (show GK _ _ _ _ (blockK _ _ _); refine gk_past rfl ?_) | (show GC _ _ _ _ _ (.cond _ _ _) _; first | refine gc_yes (h1 := ?_) | refine gc_no (h1 := ?_))))
    exact gk_ret rfl fun H' hH => ⟨0, rfl, by omega, hH.sub (by exact Sub.auto)⟩
  (repeat (first | with_reducible (first | refine go_nil ?_ | refine gk_seq ?_ | refine gc_seq ?_ | refine gc_reg ?_ | refine gc_skip ?_ | refine gk_block ?_ | refine gc_block ?_ | refine gc_exit ?_ | refine gc_ret ?_ | refine gk_seqret ?_ | refine gk_seqexit ?_ | refine gk_blockret ?_ | refine gk_out ?_ | refine gk_loopret ?_ | refine gk_loopexit ?_ | refine gq_nil ?_) | (with_reducible refine gc_drq ?_; intro _) | (show GO _ _ _ _ _ (⟨some _, none, _⟩ :: _) _; first | refine go_op (hk := ?_) | (refine go_nw (hk := ?_); intro u; try simp only [List.length_cons, List.length_nil, List.nil_append, Nat.zero_add]) | (refine go_np (hk := ?_); intro id)) | (show GQ _ _ _ _ _ _ _ (⟨some _, none, _⟩ :: _) _; first | refine gq_op (hk := ?_) | (refine gq_nw (hk := ?_); intro u; try simp only [List.length_cons, List.length_nil, List.nil_append, Nat.zero_add])) | (show GO _ _ _ _ _ (⟨none, none, _⟩ :: _) _; refine go_st (hk := ?_)) | (show GO _ _ _ _ _ (⟨_, some _, _⟩ :: _) _; first | refine go_in (hk := ?_) | refine go_out (hk := ?_) | refine go_void (hk := ?_)) | (show GQ _ _ _ _ _ _ _ (⟨_, some _, _⟩ :: _) _; first | refine gq_in (hk := ?_) | refine gq_out (hk := ?_) | refine gq_void (hk := ?_)) | (show GK _ _ _ _ (blockK _ _ _); refine gk_past rfl ?_) | (show GC _ _ _ _ _ (.cond _ _ _) _; first | refine gc_yes (h1 := ?_) | refine gc_no (h1 := ?_))))
  refine gc_cond rfl (fun h2 => ?_) (fun h2 => ?_)
  · (repeat (first | with_reducible (first | refine go_nil ?_ | refine gk_seq ?_ | refine gc_seq ?_ | refine gc_reg ?_ | refine gc_skip ?_ | refine gk_block ?_ | refine gc_block ?_ | refine gc_exit ?_ | refine gc_ret ?_ | refine gk_seqret ?_ | refine gk_seqexit ?_ | refine gk_blockret ?_ | refine gk_out ?_ | refine gk_loopret ?_ | refine gk_loopexit ?_ | refine gq_nil ?_) | (with_reducible refine gc_drq ?_; intro _) | (show GO _ _ _ _ _ (⟨some _, none, _⟩ :: _) _; first | refine go_op (hk := ?_) | (refine go_nw (hk := ?_); intro u; try simp only [List.length_cons, List.length_nil, List.nil_append, Nat.zero_add]) | (refine go_np (hk := ?_); intro id)) | (show GQ _ _ _ _ _ _ _ (⟨some _, none, _⟩ :: _) _; first | refine gq_op (hk := ?_) | (refine gq_nw (hk := ?_); intro u; try simp only [List.length_cons, List.length_nil, List.nil_append, Nat.zero_add])) | (show GO _ _ _ _ _ (⟨none, none, _⟩ :: _) _; refine go_st (hk := ?_)) | (show GO _ _ _ _ _ (⟨_, some _, _⟩ :: _) _; first | refine go_in (hk := ?_) | refine go_out (hk := ?_) | refine go_void (hk := ?_)) | (show GQ _ _ _ _ _ _ _ (⟨_, some _, _⟩ :: _) _; first | refine gq_in (hk := ?_) | refine gq_out (hk := ?_) | refine gq_void (hk := ?_)) | (show GK _ _ _ _ (blockK _ _ _); refine gk_past rfl ?_) | (show GC _ _ _ _ _ (.cond _ _ _) _; first | refine gc_yes (h1 := ?_) | refine gc_no (h1 := ?_))))
    exact gk_ret rfl fun H' hH => ⟨0, rfl, by omega, hH.sub (by exact Sub.auto)⟩
  (repeat (first | with_reducible (first | refine go_nil ?_ | refine gk_seq ?_ | refine gc_seq ?_ | refine gc_reg ?_ | refine gc_skip ?_ | refine gk_block ?_ | refine gc_block ?_ | refine gc_exit ?_ | refine gc_ret ?_ | refine gk_seqret ?_ | refine gk_seqexit ?_ | refine gk_blockret ?_ | refine gk_out ?_ | refine gk_loopret ?_ | refine gk_loopexit ?_ | refine gq_nil ?_) | (with_reducible refine gc_drq ?_; intro _) | (show GO _ _ _ _ _ (⟨some _, none, _⟩ :: _) _; first | refine go_op (hk := ?_) | (refine go_nw (hk := ?_); intro u; try simp only [List.length_cons, List.length_nil, List.nil_append, Nat.zero_add]) | (refine go_np (hk := ?_); intro id)) | (show GQ _ _ _ _ _ _ _ (⟨some _, none, _⟩ :: _) _; first | refine gq_op (hk := ?_) | (refine gq_nw (hk := ?_); intro u; try simp only [List.length_cons, List.length_nil, List.nil_append, Nat.zero_add])) | (show GO _ _ _ _ _ (⟨none, none, _⟩ :: _) _; refine go_st (hk := ?_)) | (show GO _ _ _ _ _ (⟨_, some _, _⟩ :: _) _; first | refine go_in (hk := ?_) | refine go_out (hk := ?_) | refine go_void (hk := ?_)) | (show GQ _ _ _ _ _ _ _ (⟨_, some _, _⟩ :: _) _; first | refine gq_in (hk := ?_) | refine gq_out (hk := ?_) | refine gq_void (hk := ?_)) | (show GK _ _ _ _ (blockK _ _ _); refine gk_past rfl ?_) | (show GC _ _ _ _ _ (.cond _ _ _) _; first | refine gc_yes (h1 := ?_) | refine gc_no (h1 := ?_))))
  have hb2 := hb.2
  refine gc_recall 5 (.int .i64 (p : Int)) rfl (by first | rfl | (congr 1; omega)) ?_
  refine gc_cond rfl (fun h3 => ?_) (fun h3 => ?_)
  · have hq := hb2 p
    (repeat (first | with_reducible (first | refine go_nil ?_ | refine gk_seq ?_ | refine gc_seq ?_ | refine gc_reg ?_ | refine gc_skip ?_ | refine gk_block ?_ | refine gc_block ?_ | refine gc_exit ?_ | refine gc_ret ?_ | refine gk_seqret ?_ | refine gk_seqexit ?_ | refine gk_blockret ?_ | refine gk_out ?_ | refine gk_loopret ?_ | refine gk_loopexit ?_ | refine gq_nil ?_) | (with_reducible refine gc_drq ?_; intro _) | (show GO _ _ _ _ _ (⟨some _, none, _⟩ :: _) _; first | refine go_op (hk := ?_) | (refine go_nw (hk := ?_); intro u; try simp only [List.length_cons, List.length_nil, List.nil_append, Nat.zero_add]) | (refine go_np (hk := ?_); intro id)) | (show GQ _ _ _ _ _ _ _ (⟨some _, none, _⟩ :: _) _; first | refine gq_op (hk := ?_) | (refine gq_nw (hk := ?_); intro u; try simp only [List.length_cons, List.length_nil, List.nil_append, Nat.zero_add])) | (show GO _ _ _ _ _ (⟨none, none, _⟩ :: _) _; refine go_st (hk := ?_)) | (show GO _ _ _ _ _ (⟨_, some _, _⟩ :: _) _; first | refine go_in (hk := ?_) | refine go_out (hk := ?_) | refine go_void (hk := ?_)) | (show GQ _ _ _ _ _ _ _ (⟨_, some _, _⟩ :: _) _; first | refine gq_in (hk := ?_) | refine gq_out (hk := ?_) | refine gq_void (hk := ?_)) | (show GK _ _ _ _ (blockK _ _ _); refine gk_past rfl ?_) | (show GC _ _ _ _ _ (.cond _ _ _) _; first | refine gc_yes (h1 := ?_) | refine gc_no (h1 := ?_))))
    refine gk_ret rfl fun H' hH => ⟨nth bs p % n, rfl, ?_, hH.sub (by exact Sub.auto)⟩
    have h4 := Int.emod_nonneg (nth bs p) (b := n) (by omega)
    have h5 := Int.emod_lt_of_pos (nth bs p) (b := n) (by omega)
    omega
  have q0 : (0 : Int) < bs.length := by omega
  have q1 := Int.emod_nonneg (p : Int) (b := bs.length) (by omega)
  have q2 := Int.emod_lt_of_pos (p : Int) q0
  have q3 := Int.emod_nonneg ((p : Int) * 7 + 3) (b := bs.length) (by omega)
  have q4 := Int.emod_lt_of_pos ((p : Int) * 7 + 3) q0
  have q5 := Int.ediv_nonneg (a := (p : Int)) (b := bs.length) (by omega) (by omega)
  have q6 := Int.ediv_le_self (a := (p : Int)) (bs.length) (by omega)
  have q7 := hb2 ((p : Int) % bs.length).toNat
  have q8 := hb2 (((p : Int) * 7 + 3) % bs.length).toNat
  (repeat (first | with_reducible (first | refine go_nil ?_ | refine gk_seq ?_ | refine gc_seq ?_ | refine gc_reg ?_ | refine gc_skip ?_ | refine gk_block ?_ | refine gc_block ?_ | refine gc_exit ?_ | refine gc_ret ?_ | refine gk_seqret ?_ | refine gk_seqexit ?_ | refine gk_blockret ?_ | refine gk_out ?_ | refine gk_loopret ?_ | refine gk_loopexit ?_ | refine gq_nil ?_) | (with_reducible refine gc_drq ?_; intro _) | (show GO _ _ _ _ _ (⟨some _, none, _⟩ :: _) _; first | refine go_op (hk := ?_) | (refine go_nw (hk := ?_); intro u; try simp only [List.length_cons, List.length_nil, List.nil_append, Nat.zero_add]) | (refine go_np (hk := ?_); intro id)) | (show GQ _ _ _ _ _ _ _ (⟨some _, none, _⟩ :: _) _; first | refine gq_op (hk := ?_) | (refine gq_nw (hk := ?_); intro u; try simp only [List.length_cons, List.length_nil, List.nil_append, Nat.zero_add])) | (show GO _ _ _ _ _ (⟨none, none, _⟩ :: _) _; refine go_st (hk := ?_)) | (show GO _ _ _ _ _ (⟨_, some _, _⟩ :: _) _; first | refine go_in (hk := ?_) | refine go_out (hk := ?_) | refine go_void (hk := ?_)) | (show GQ _ _ _ _ _ _ _ (⟨_, some _, _⟩ :: _) _; first | refine gq_in (hk := ?_) | refine gq_out (hk := ?_) | refine gq_void (hk := ?_)) | (show GK _ _ _ _ (blockK _ _ _); refine gk_past rfl ?_) | (show GC _ _ _ _ _ (.cond _ _ _) _; first | refine gc_yes (h1 := ?_) | refine gc_no (h1 := ?_))))
  refine gk_ret rfl fun H' hH => ⟨_, rfl, ?_, hH.sub (by exact Sub.auto)⟩
  generalize ((_ ^^^ _ : Nat) : Int) = z
  have h4 := Int.emod_nonneg z (b := n) (by omega)
  have h5 := Int.emod_lt_of_pos z (b := n) (by omega)
  omega

theorem nth_mem {xs : List Int} {i : Nat} (h : i < xs.length) : nth xs i ∈ xs := by rw [nth_of h]; exact List.getElem_mem h

theorem one_ok {A : Heap} {X : List Nat} {S S0 : Sig} {H : Heap} {id p m : Nat} {bv lv : AV} {bs xs : List Int} (hS : SOk A X S H.size H) (hs : Sel S (rdr id bv p) S0) (hR : SubF S0 [byt bv bs, .roI lv m xs]) (hm : xs.length = m) (hb : ByteOk bs) (hp : p ≤ 1000000000) (hn : 0 < m) (hx : m ≤ 1000) :
    ACalls Try.prog fn_spec_reader_one [.ptr id 0, lv] H fun r H' => ∃ x : Int, r = .int .i64 x ∧ SOk A X (rdr id bv (p + 1) :: S0) H'.size H' ∧ x ∈ xs := by
  refine code_spec_reader_one.gowg (T := fun _ => []) (C := fun _ => rdr id bv (p + 1)) hS hs rfl hR rfl (fun _ => rfl) (fun _ => rfl) (fun _ => rfl) (by simp) ?_
  intro X'
  unfold mc_spec_reader_one
  (repeat (first | with_reducible (first | refine go_nil ?_ | refine gk_seq ?_ | refine gc_seq ?_ | refine gc_reg ?_ | refine gc_skip ?_ | refine gk_block ?_ | refine gc_block ?_ | refine gc_exit ?_ | refine gc_ret ?_ | refine gk_seqret ?_ | refine gk_seqexit ?_ | refine gk_blockret ?_ | refine gk_out ?_ | refine gk_loopret ?_ | refine gk_loopexit ?_) | (show GO _ _ _ _ _ (⟨some _, none, .call _ _⟩ :: _) _; first | (show GO _ _ _ _ _ (⟨some _, none, .call fn_spec_reader_pick _⟩ :: _) _; refine go_callg rfl code_spec_reader_pick.callable (fun H hH => pick_ok hH (by exact Sel.auto) (by exact SubF.auto) (by assumption) (by omega)) ?_; intro g hg)) | (show GO _ _ _ _ _ (⟨some _, none, _⟩ :: _) _; first | refine go_op (hk := ?_) | (refine go_nw (hk := ?_); intro u; try simp only [List.length_cons, List.length_nil, List.nil_append, Nat.zero_add]) | (refine go_np (hk := ?_); intro id)) | (show GO _ _ _ _ _ (⟨none, none, _⟩ :: _) _; refine go_st (hk := ?_)) | (show GO _ _ _ _ _ (⟨_, some _, _⟩ :: _) _; first | refine go_in (hk := ?_) | refine go_out (hk := ?_) | refine go_void (hk := ?_)) | (show GK _ _ _ _ (blockK _ _ _); refine gk_past rfl ?_) | (show GC _ _ _ _ _ (.cond _ _ _) _; first | refine gc_yes (h1 := ?_) | refine gc_no (h1 := ?_))))
  exact gk_ret rfl fun H' hH => ⟨_, rfl, nth_mem (by omega), hH.sub (by exact Sub.auto)⟩

structure RG where
  id : Nat
  v : AV
  bs : List Int

theorem newReader_ok {A : Heap} {X : List Nat} {S : Sig} {H : Heap} {cv : AV} {bs : List Int} (hS : SOk A X S H.size H) (hh : Has S cv 1 bs.length (bytesL bs)) (hb : ∀ i, 0 ≤ nth bs i ∧ nth bs i ≤ 255) (hl : bs.length ≤ 1048576) :
    ACalls Try.prog fn_spec_newReader [cv] H fun r H' => ∃ g : RG, r = .ptr g.id 0 ∧ SOk A X [rdr g.id g.v 0, byt g.v g.bs] H'.size H' ∧ ByteOk g.bs := by
  have hv := hS.valsA hh
  suffices hq : ACalls Try.prog fn_spec_newReader [cv] H fun r H' => ∃ g : RG, r = .ptr g.id 0 ∧ ByteOk g.bs ∧ SOk H [] [rdr g.id g.v 0, byt g.v g.bs] H'.size H' by
    refine hq.mono ?_
    rintro r H' ⟨g, h1, h2, h3⟩
    exact ⟨g, h1, hS.over h3, h2⟩
  refine code_spec_newReader.go [byt cv bs] ⟨⟨rfl, hv⟩, trivial⟩ (by simp) ?_
  unfold mc_spec_newReader
  (repeat (first | with_reducible (first | refine go_nil ?_ | refine gk_seq ?_ | refine gc_seq ?_ | refine gc_reg ?_ | refine gc_skip ?_ | refine gk_block ?_ | refine gc_block ?_ | refine gc_exit ?_ | refine gc_ret ?_ | refine gk_seqret ?_ | refine gk_seqexit ?_ | refine gk_blockret ?_ | refine gk_out ?_ | refine gk_loopret ?_ | refine gk_loopexit ?_) | (show GO _ _ _ _ _ (⟨some _, none, _⟩ :: _) _; first | refine go_op (hk := ?_) | (refine go_nw (hk := ?_); intro u; try simp only [List.length_cons, List.length_nil, List.nil_append, Nat.zero_add]) | (refine go_np (hk := ?_); intro id)) | (show GO _ _ _ _ _ (⟨none, none, _⟩ :: _) _; refine go_st (hk := ?_)) | (show GO _ _ _ _ _ (⟨_, some _, _⟩ :: _) _; first | refine go_in (hk := ?_) | refine go_out (hk := ?_) | refine go_void (hk := ?_)) | (show GK _ _ _ _ (blockK _ _ _); refine gk_past rfl ?_) | (show GC _ _ _ _ _ (.cond _ _ _) _; first | refine gc_yes (h1 := ?_) | refine gc_no (h1 := ?_))))
  refine gc_cond rfl (fun h => ?_) (fun h => ?_)
  · (repeat (first | with_reducible (first | refine go_nil ?_ | refine gk_seq ?_ | refine gc_seq ?_ | refine gc_reg ?_ | refine gc_skip ?_ | refine gk_block ?_ | refine gc_block ?_ | refine gc_exit ?_ | refine gc_ret ?_ | refine gk_seqret ?_ | refine gk_seqexit ?_ | refine gk_blockret ?_ | refine gk_out ?_ | refine gk_loopret ?_ | refine gk_loopexit ?_) | (show GO _ _ _ _ _ (⟨some _, none, _⟩ :: _) _; first | refine go_op (hk := ?_) | (refine go_nw (hk := ?_); intro u; try simp only [List.length_cons, List.length_nil, List.nil_append, Nat.zero_add]) | (refine go_np (hk := ?_); intro id)) | (show GO _ _ _ _ _ (⟨none, none, _⟩ :: _) _; refine go_st (hk := ?_)) | (show GO _ _ _ _ _ (⟨_, some _, _⟩ :: _) _; first | refine go_in (hk := ?_) | refine go_out (hk := ?_) | refine go_void (hk := ?_)) | (show GK _ _ _ _ (blockK _ _ _); refine gk_past rfl ?_) | (show GC _ _ _ _ _ (.cond _ _ _) _; first | refine gc_yes (h1 := ?_) | refine gc_no (h1 := ?_))))
    refine go_new rfl (stp_sl (l := 0) (h := 2000) rfl Sel.head (.inl ⟨rfl, rfl⟩) (.inr ⟨_, rfl, rfl⟩) ⟨by omega, by omega⟩) (fun u => ?_)
    have e : ((bytesL bs).drop (0 * 1)).take ((2000 - 0) * 1) = bytesL (bs.take 2000) := by simp [bytesL, List.map_take]
    have e2 : 2000 - 0 = (bs.take 2000).length := by simp; omega
    have e3 : (bs.take 2000).length ≤ 2000 := by omega
    rw [e, e2]
    (repeat (first | with_reducible (first | refine go_nil ?_ | refine gk_seq ?_ | refine gc_seq ?_ | refine gc_reg ?_ | refine gc_skip ?_ | refine gk_block ?_ | refine gc_block ?_ | refine gc_exit ?_ | refine gc_ret ?_ | refine gk_seqret ?_ | refine gk_seqexit ?_ | refine gk_blockret ?_ | refine gk_out ?_ | refine gk_loopret ?_ | refine gk_loopexit ?_) | (show GO _ _ _ _ _ (⟨some _, none, _⟩ :: _) _; first | refine go_op (hk := ?_) | (refine go_nw (hk := ?_); intro u; try simp only [List.length_cons, List.length_nil, List.nil_append, Nat.zero_add]) | (refine go_np (hk := ?_); intro id)) | (show GO _ _ _ _ _ (⟨none, none, _⟩ :: _) _; refine go_st (hk := ?_)) | (show GO _ _ _ _ _ (⟨_, some _, _⟩ :: _) _; first | refine go_in (hk := ?_) | refine go_out (hk := ?_) | refine go_void (hk := ?_)) | (show GK _ _ _ _ (blockK _ _ _); refine gk_past rfl ?_) | (show GC _ _ _ _ _ (.cond _ _ _) _; first | refine gc_yes (h1 := ?_) | refine gc_no (h1 := ?_))))
    refine go_know (fun m H h => (h.valsA (v := u) (by exact Has.auto)).sl) (fun hsl => ?_)
    obtain ⟨hc1, hc2⟩ := slice_cells hsl
    refine go_is rfl (stp_bld (l := [(0, 1, u)]) (cs := [u, .int .i64 0]) rfl (by simp [fillL, hc1, hc2])) ?_
    refine go_newp rfl (stp_box (cs := [u, .int .i64 0]) rfl (by rw [AV.cells]) (by simp only [List.all_cons, List.all_nil, hc2]; rfl)) (fun id => ?_)
    (repeat (first | with_reducible (first | refine go_nil ?_ | refine gk_seq ?_ | refine gc_seq ?_ | refine gc_reg ?_ | refine gc_skip ?_ | refine gk_block ?_ | refine gc_block ?_ | refine gc_exit ?_ | refine gc_ret ?_ | refine gk_seqret ?_ | refine gk_seqexit ?_ | refine gk_blockret ?_ | refine gk_out ?_ | refine gk_loopret ?_ | refine gk_loopexit ?_) | (show GO _ _ _ _ _ (⟨some _, none, _⟩ :: _) _; first | refine go_op (hk := ?_) | (refine go_nw (hk := ?_); intro u; try simp only [List.length_cons, List.length_nil, List.nil_append, Nat.zero_add]) | (refine go_np (hk := ?_); intro id)) | (show GO _ _ _ _ _ (⟨none, none, _⟩ :: _) _; refine go_st (hk := ?_)) | (show GO _ _ _ _ _ (⟨_, some _, _⟩ :: _) _; first | refine go_in (hk := ?_) | refine go_out (hk := ?_) | refine go_void (hk := ?_)) | (show GK _ _ _ _ (blockK _ _ _); refine gk_past rfl ?_) | (show GC _ _ _ _ _ (.cond _ _ _) _; first | refine gc_yes (h1 := ?_) | refine gc_no (h1 := ?_))))
    refine gk_ret rfl fun H' hH => ⟨⟨id, u, bs.take 2000⟩, rfl, ⟨e3, fun i => ?_⟩, hH.sub (by exact Sub.auto)⟩
    have := hb i
    simp only [nth, List.getD_eq_getElem?_getD, List.getElem?_take] at this ⊢
    split
    · exact this
    · simp
  · (repeat (first | with_reducible (first | refine go_nil ?_ | refine gk_seq ?_ | refine gc_seq ?_ | refine gc_reg ?_ | refine gc_skip ?_ | refine gk_block ?_ | refine gc_block ?_ | refine gc_exit ?_ | refine gc_ret ?_ | refine gk_seqret ?_ | refine gk_seqexit ?_ | refine gk_blockret ?_ | refine gk_out ?_ | refine gk_loopret ?_ | refine gk_loopexit ?_) | (show GO _ _ _ _ _ (⟨some _, none, _⟩ :: _) _; first | refine go_op (hk := ?_) | (refine go_nw (hk := ?_); intro u; try simp only [List.length_cons, List.length_nil, List.nil_append, Nat.zero_add]) | (refine go_np (hk := ?_); intro id)) | (show GO _ _ _ _ _ (⟨none, none, _⟩ :: _) _; refine go_st (hk := ?_)) | (show GO _ _ _ _ _ (⟨_, some _, _⟩ :: _) _; first | refine go_in (hk := ?_) | refine go_out (hk := ?_) | refine go_void (hk := ?_)) | (show GK _ _ _ _ (blockK _ _ _); refine gk_past rfl ?_) | (show GC _ _ _ _ _ (.cond _ _ _) _; first | refine gc_yes (h1 := ?_) | refine gc_no (h1 := ?_))))
    refine go_know (fun m H h => (h.valsA (v := cv) (by exact Has.auto)).sl) (fun hsl => ?_)
    obtain ⟨hc1, hc2⟩ := slice_cells hsl
    refine go_is rfl (stp_bld (l := [(0, 1, cv)]) (cs := [cv, .int .i64 0]) rfl (by simp [fillL, hc1, hc2])) ?_
    refine go_newp rfl (stp_box (cs := [cv, .int .i64 0]) rfl (by rw [AV.cells]) (by simp only [List.all_cons, List.all_nil, hc2]; rfl)) (fun id => ?_)
    (repeat (first | with_reducible (first | refine go_nil ?_ | refine gk_seq ?_ | refine gc_seq ?_ | refine gc_reg ?_ | refine gc_skip ?_ | refine gk_block ?_ | refine gc_block ?_ | refine gc_exit ?_ | refine gc_ret ?_ | refine gk_seqret ?_ | refine gk_seqexit ?_ | refine gk_blockret ?_ | refine gk_out ?_ | refine gk_loopret ?_ | refine gk_loopexit ?_) | (show GO _ _ _ _ _ (⟨some _, none, _⟩ :: _) _; first | refine go_op (hk := ?_) | (refine go_nw (hk := ?_); intro u; try simp only [List.length_cons, List.length_nil, List.nil_append, Nat.zero_add]) | (refine go_np (hk := ?_); intro id)) | (show GO _ _ _ _ _ (⟨none, none, _⟩ :: _) _; refine go_st (hk := ?_)) | (show GO _ _ _ _ _ (⟨_, some _, _⟩ :: _) _; first | refine go_in (hk := ?_) | refine go_out (hk := ?_) | refine go_void (hk := ?_)) | (show GK _ _ _ _ (blockK _ _ _); refine gk_past rfl ?_) | (show GC _ _ _ _ _ (.cond _ _ _) _; first | refine gc_yes (h1 := ?_) | refine gc_no (h1 := ?_))))
    exact gk_ret rfl fun H' hH => ⟨⟨id, cv, bs⟩, rfl, ⟨by show bs.length ≤ 2000; omega, hb⟩, hH.sub (by exact Sub.auto)⟩

theorem sok_keep {A : Heap} {X : List Nat} {S S0 : Sig} {H H' : Heap} {c : Ch} {T : Sig} (h : SOk A X S H.size H) (hs : Sel S c S0) (hw : c.k.wr = true) (h1 : SOk H [] T H'.size H') (hT : ∀ d ∈ T, d.k.wr = true ∨ ∃ e ∈ S0, d.v.bid = e.v.bid) : SOk A X (T ++ [c]) H'.size H' := by
  have h2 := h.over h1
  have hc := (h.sel hs).ch c (by simp)
  have hap := hs.ap h.ap
  rw [List.pairwise_cons] at hap
  refine ⟨h2.le, h2.am, h2.mh, fun d hd => ?_, ?_⟩
  · rcases List.mem_append.1 hd with hd | hd
    · exact h2.ch d hd
    · simp only [List.mem_cons, List.not_mem_nil, or_false] at hd
      subst hd
      exact hc.mono h1.le.size fun k hk => h1.le.get k (hc.1 k hk) (by simp)
  · rw [List.pairwise_append]
    refine ⟨h2.ap, by simp, fun d hd e he => ?_⟩
    simp only [List.mem_cons, List.not_mem_nil, or_false] at he
    subst he
    intro _ k h3 h4
    rcases hT d hd with h5 | ⟨f, h5, h6⟩
    · rcases (h1.ch d hd).own h5 h3 with h7 | h7
      · have := hc.1 k h4; omega
      · simp at h7
    · exact hap.1 f h5 (.inl hw) k h4 (h6 ▸ h3)

theorem has_mem {S : Sig} {v : AV} {es n : Nat} {cs : List AV} (h : Has S v es n cs) : ∃ e ∈ S, e.v = v := by
  induction h with
  | ro => exact ⟨_, List.Mem.head _, rfl⟩
  | rw => exact ⟨_, List.Mem.head _, rfl⟩
  | tail h ih => obtain ⟨e, h1, h2⟩ := ih; exact ⟨e, List.Mem.tail _ h1, h2⟩

/-- the same, beside a cell of one's own -/
theorem newReaderC_ok {A : Heap} {X : List Nat} {S S0 : Sig} {H : Heap} {c : Ch} {cv : AV} {bs : List Int} (hS : SOk A X S H.size H) (hs : Sel S c S0) (hwr : c.k.wr = true) (hh : Has S0 cv 1 bs.length (bytesL bs)) (hb : ∀ i, 0 ≤ nth bs i ∧ nth bs i ≤ 255) (hl : bs.length ≤ 1048576) :
    ACalls Try.prog fn_spec_newReader [cv] H fun r H' => ∃ g : RG, r = .ptr g.id 0 ∧ SOk A X [rdr g.id g.v 0, byt g.v g.bs, c] H'.size H' ∧ ByteOk g.bs := by
  have hv := (hS.sel hs).valsA (.tail hh)
  suffices hq : ACalls Try.prog fn_spec_newReader [cv] H fun r H' => ∃ g : RG, r = .ptr g.id 0 ∧ ByteOk g.bs ∧ g.v.bid = cv.bid ∧ SOk H [] [rdr g.id g.v 0, byt g.v g.bs] H'.size H' by
    refine hq.mono ?_
    rintro r H' ⟨g, h1, h2, h4, h3⟩
    obtain ⟨e, he, hev⟩ := has_mem hh
    refine ⟨g, h1, sok_keep hS hs hwr h3 fun d hd => ?_, h2⟩
    rcases List.mem_cons.1 hd with rfl | hd
    · exact .inl rfl
    · simp only [List.mem_cons, List.not_mem_nil, or_false] at hd
      subst hd
      exact .inr ⟨e, he, by rw [hev]; exact h4⟩
  refine code_spec_newReader.go [byt cv bs] ⟨⟨rfl, hv⟩, trivial⟩ (by simp) ?_
  unfold mc_spec_newReader
  (repeat (first | with_reducible (first | refine go_nil ?_ | refine gk_seq ?_ | refine gc_seq ?_ | refine gc_reg ?_ | refine gc_skip ?_ | refine gk_block ?_ | refine gc_block ?_ | refine gc_exit ?_ | refine gc_ret ?_ | refine gk_seqret ?_ | refine gk_seqexit ?_ | refine gk_blockret ?_ | refine gk_out ?_ | refine gk_loopret ?_ | refine gk_loopexit ?_) | (show GO _ _ _ _ _ (⟨some _, none, _⟩ :: _) _; first | refine go_op (hk := ?_) | (refine go_nw (hk := ?_); intro u; try simp only [List.length_cons, List.length_nil, List.nil_append, Nat.zero_add]) | (refine go_np (hk := ?_); intro id)) | (show GO _ _ _ _ _ (⟨none, none, _⟩ :: _) _; refine go_st (hk := ?_)) | (show GO _ _ _ _ _ (⟨_, some _, _⟩ :: _) _; first | refine go_in (hk := ?_) | refine go_out (hk := ?_) | refine go_void (hk := ?_)) | (show GK _ _ _ _ (blockK _ _ _); refine gk_past rfl ?_) | (show GC _ _ _ _ _ (.cond _ _ _) _; first | refine gc_yes (h1 := ?_) | refine gc_no (h1 := ?_))))
  refine gc_cond rfl (fun h => ?_) (fun h => ?_)
  · (repeat (first | with_reducible (first | refine go_nil ?_ | refine gk_seq ?_ | refine gc_seq ?_ | refine gc_reg ?_ | refine gc_skip ?_ | refine gk_block ?_ | refine gc_block ?_ | refine gc_exit ?_ | refine gc_ret ?_ | refine gk_seqret ?_ | refine gk_seqexit ?_ | refine gk_blockret ?_ | refine gk_out ?_ | refine gk_loopret ?_ | refine gk_loopexit ?_) | (show GO _ _ _ _ _ (⟨some _, none, _⟩ :: _) _; first | refine go_op (hk := ?_) | (refine go_nw (hk := ?_); intro u; try simp only [List.length_cons, List.length_nil, List.nil_append, Nat.zero_add]) | (refine go_np (hk := ?_); intro id)) | (show GO _ _ _ _ _ (⟨none, none, _⟩ :: _) _; refine go_st (hk := ?_)) | (show GO _ _ _ _ _ (⟨_, some _, _⟩ :: _) _; first | refine go_in (hk := ?_) | refine go_out (hk := ?_) | refine go_void (hk := ?_)) | (show GK _ _ _ _ (blockK _ _ _); refine gk_past rfl ?_) | (show GC _ _ _ _ _ (.cond _ _ _) _; first | refine gc_yes (h1 := ?_) | refine gc_no (h1 := ?_))))
    refine go_step (stp_slb (l := 0) (h := 2000) rfl Sel.head (.inl ⟨rfl, rfl⟩) (.inr ⟨_, rfl, rfl⟩) ⟨by omega, by omega⟩) rfl (fun u S' hu => ?_)
    obtain ⟨hub, rfl⟩ := hu
    have e : ((bytesL bs).drop (0 * 1)).take ((2000 - 0) * 1) = bytesL (bs.take 2000) := by simp [bytesL, List.map_take]
    have e2 : 2000 - 0 = (bs.take 2000).length := by simp; omega
    have e3 : (bs.take 2000).length ≤ 2000 := by omega
    rw [e, e2]
    (repeat (first | with_reducible (first | refine go_nil ?_ | refine gk_seq ?_ | refine gc_seq ?_ | refine gc_reg ?_ | refine gc_skip ?_ | refine gk_block ?_ | refine gc_block ?_ | refine gc_exit ?_ | refine gc_ret ?_ | refine gk_seqret ?_ | refine gk_seqexit ?_ | refine gk_blockret ?_ | refine gk_out ?_ | refine gk_loopret ?_ | refine gk_loopexit ?_) | (show GO _ _ _ _ _ (⟨some _, none, _⟩ :: _) _; first | refine go_op (hk := ?_) | (refine go_nw (hk := ?_); intro u; try simp only [List.length_cons, List.length_nil, List.nil_append, Nat.zero_add]) | (refine go_np (hk := ?_); intro id)) | (show GO _ _ _ _ _ (⟨none, none, _⟩ :: _) _; refine go_st (hk := ?_)) | (show GO _ _ _ _ _ (⟨_, some _, _⟩ :: _) _; first | refine go_in (hk := ?_) | refine go_out (hk := ?_) | refine go_void (hk := ?_)) | (show GK _ _ _ _ (blockK _ _ _); refine gk_past rfl ?_) | (show GC _ _ _ _ _ (.cond _ _ _) _; first | refine gc_yes (h1 := ?_) | refine gc_no (h1 := ?_))))
    refine go_know (fun m H h => (h.valsA (v := u) (by exact Has.auto)).sl) (fun hsl => ?_)
    obtain ⟨hc1, hc2⟩ := slice_cells hsl
    refine go_is rfl (stp_bld (l := [(0, 1, u)]) (cs := [u, .int .i64 0]) rfl (by simp [fillL, hc1, hc2])) ?_
    refine go_newp rfl (stp_box (cs := [u, .int .i64 0]) rfl (by rw [AV.cells]) (by simp only [List.all_cons, List.all_nil, hc2]; rfl)) (fun id => ?_)
    (repeat (first | with_reducible (first | refine go_nil ?_ | refine gk_seq ?_ | refine gc_seq ?_ | refine gc_reg ?_ | refine gc_skip ?_ | refine gk_block ?_ | refine gc_block ?_ | refine gc_exit ?_ | refine gc_ret ?_ | refine gk_seqret ?_ | refine gk_seqexit ?_ | refine gk_blockret ?_ | refine gk_out ?_ | refine gk_loopret ?_ | refine gk_loopexit ?_) | (show GO _ _ _ _ _ (⟨some _, none, _⟩ :: _) _; first | refine go_op (hk := ?_) | (refine go_nw (hk := ?_); intro u; try simp only [List.length_cons, List.length_nil, List.nil_append, Nat.zero_add]) | (refine go_np (hk := ?_); intro id)) | (show GO _ _ _ _ _ (⟨none, none, _⟩ :: _) _; refine go_st (hk := ?_)) | (show GO _ _ _ _ _ (⟨_, some _, _⟩ :: _) _; first | refine go_in (hk := ?_) | refine go_out (hk := ?_) | refine go_void (hk := ?_)) | (show GK _ _ _ _ (blockK _ _ _); refine gk_past rfl ?_) | (show GC _ _ _ _ _ (.cond _ _ _) _; first | refine gc_yes (h1 := ?_) | refine gc_no (h1 := ?_))))
    refine gk_ret rfl fun H' hH => ⟨⟨id, u, bs.take 2000⟩, rfl, ⟨e3, fun i => ?_⟩, hub, hH.sub (by exact Sub.auto)⟩
    have := hb i
    simp only [nth, List.getD_eq_getElem?_getD, List.getElem?_take] at this ⊢
    split
    · exact this
    · simp
  · (repeat (first | with_reducible (first | refine go_nil ?_ | refine gk_seq ?_ | refine gc_seq ?_ | refine gc_reg ?_ | refine gc_skip ?_ | refine gk_block ?_ | refine gc_block ?_ | refine gc_exit ?_ | refine gc_ret ?_ | refine gk_seqret ?_ | refine gk_seqexit ?_ | refine gk_blockret ?_ | refine gk_out ?_ | refine gk_loopret ?_ | refine gk_loopexit ?_) | (show GO _ _ _ _ _ (⟨some _, none, _⟩ :: _) _; first | refine go_op (hk := ?_) | (refine go_nw (hk := ?_); intro u; try simp only [List.length_cons, List.length_nil, List.nil_append, Nat.zero_add]) | (refine go_np (hk := ?_); intro id)) | (show GO _ _ _ _ _ (⟨none, none, _⟩ :: _) _; refine go_st (hk := ?_)) | (show GO _ _ _ _ _ (⟨_, some _, _⟩ :: _) _; first | refine go_in (hk := ?_) | refine go_out (hk := ?_) | refine go_void (hk := ?_)) | (show GK _ _ _ _ (blockK _ _ _); refine gk_past rfl ?_) | (show GC _ _ _ _ _ (.cond _ _ _) _; first | refine gc_yes (h1 := ?_) | refine gc_no (h1 := ?_))))
    refine go_know (fun m H h => (h.valsA (v := cv) (by exact Has.auto)).sl) (fun hsl => ?_)
    obtain ⟨hc1, hc2⟩ := slice_cells hsl
    refine go_is rfl (stp_bld (l := [(0, 1, cv)]) (cs := [cv, .int .i64 0]) rfl (by simp [fillL, hc1, hc2])) ?_
    refine go_newp rfl (stp_box (cs := [cv, .int .i64 0]) rfl (by rw [AV.cells]) (by simp only [List.all_cons, List.all_nil, hc2]; rfl)) (fun id => ?_)
    (repeat (first | with_reducible (first | refine go_nil ?_ | refine gk_seq ?_ | refine gc_seq ?_ | refine gc_reg ?_ | refine gc_skip ?_ | refine gk_block ?_ | refine gc_block ?_ | refine gc_exit ?_ | refine gc_ret ?_ | refine gk_seqret ?_ | refine gk_seqexit ?_ | refine gk_blockret ?_ | refine gk_out ?_ | refine gk_loopret ?_ | refine gk_loopexit ?_) | (show GO _ _ _ _ _ (⟨some _, none, _⟩ :: _) _; first | refine go_op (hk := ?_) | (refine go_nw (hk := ?_); intro u; try simp only [List.length_cons, List.length_nil, List.nil_append, Nat.zero_add]) | (refine go_np (hk := ?_); intro id)) | (show GO _ _ _ _ _ (⟨none, none, _⟩ :: _) _; refine go_st (hk := ?_)) | (show GO _ _ _ _ _ (⟨_, some _, _⟩ :: _) _; first | refine go_in (hk := ?_) | refine go_out (hk := ?_) | refine go_void (hk := ?_)) | (show GK _ _ _ _ (blockK _ _ _); refine gk_past rfl ?_) | (show GC _ _ _ _ _ (.cond _ _ _) _; first | refine gc_yes (h1 := ?_) | refine gc_no (h1 := ?_))))
    exact gk_ret rfl fun H' hH => ⟨⟨id, cv, bs⟩, rfl, ⟨by show bs.length ≤ 2000; omega, hb⟩, rfl, hH.sub (by exact Sub.auto)⟩

def Bd (b : Int) (xs : List Int) : Prop := ∀ x ∈ xs, -b ≤ x ∧ x ≤ b

theorem Bd.nth {b : Int} {xs : List Int} (h : Bd b xs) (hb : 0 ≤ b) (i : Nat) : -b ≤ nth xs i ∧ nth xs i ≤ b := by
  by_cases hi : i < xs.length
  · exact h _ (nth_mem hi)
  · have : Rx.nth xs i = 0 := by simp [Rx.nth, Nat.le_of_not_lt hi]
    omega

theorem Bd.one {b x : Int} (h : -b ≤ x ∧ x ≤ b) : Bd b [x] := by
  intro y hy; simp only [List.mem_singleton] at hy; subst hy; exact h

noncomputable instance (b : Int) (xs : List Int) : Decidable (Bd b xs) := Classical.propDecidable _

theorem bytes_of {bs : List Int} (h : ∀ x ∈ bs, (Lit.int .u8 x).wf = true) (i : Nat) : 0 ≤ nth bs i ∧ nth bs i ≤ 255 := by
  by_cases hi : i < bs.length
  · have := h _ (nth_mem hi)
    simp [Lit.wf, IntKind.min, IntKind.max, IntKind.signed, IntKind.bits] at this
    omega
  · have : nth bs i = 0 := by simp [nth, Nat.le_of_not_lt hi]
    omega

def Up (l : List Int) : Prop := l.Pairwise (· ≤ ·)

theorem Up.le {l : List Int} (h : Up l) {i j : Nat} (hij : i ≤ j) (hj : j < l.length) : nth l i ≤ nth l j := by
  rcases Nat.lt_or_ge i j with h1 | h1
  · rw [nth_of (by omega), nth_of hj]
    exact List.pairwise_iff_getElem.1 h i j (by omega) hj h1
  · have : i = j := by omega
    subst this; exact Int.le_refl _

/-- how many sets of k of n, out of a power -/
def cb (n k : Nat) : Nat := 4294967297 ^ n / 4294967296 ^ k % 4294967296

/-- how many sets of k of n -/
def chs (n : Nat) : Nat → Int
  | 0 => 1
  | i + 1 => chs n i * ((n : Int) - (i : Int)) / ((i + 1 : Nat) : Int)

theorem chs_facts : ∀ n, n < 33 → ∀ i, i < 33 → (0 ≤ chs n i ∧ chs n i ≤ 1000000000) ∧ 0 ≤ chs n i * ((n : Int) - (i : Int)) ∧ chs n i * ((n : Int) - (i : Int)) ≤ 100000000000 ∧ (n < i → chs n i = 0) := by decide +kernel

theorem chs_cb : ∀ n, n < 33 → ∀ k, k < 33 → chs n k = (cb n k : Int) := by decide +kernel

structure F4 where
  a : Int
  b : Int
  c : Int
  d : Int

abbrev F4.v (g : F4) : AV := .agg [.int .i64 g.a, .int .i64 g.b, .int .i64 g.c, .int .i64 g.d]

theorem lawsChoose_cb {H : Heap} {n k : Nat} (hn : n ≤ 32) (hk : k ≤ n) : ACalls Try.prog fn_laws_choose [.int .i64 (n : Int), .int .i64 (k : Int)] H fun r H' => r = .int .i64 (cb n k : Nat) ∧ H' = H := by
  rw [← chs_cb n (by omega) k (by omega)]
  refine ACalls.val ?_ rfl
  refine code_laws_choose.go [] trivial (by simp) ?_
  unfold mc_laws_choose
  (repeat (first | with_reducible (first | refine go_nil ?_ | refine gk_seq ?_ | refine gc_seq ?_ | refine gc_reg ?_ | refine gc_skip ?_ | refine gk_block ?_ | refine gc_block ?_ | refine gc_exit ?_ | refine gc_ret ?_ | refine gk_seqret ?_ | refine gk_seqexit ?_ | refine gk_blockret ?_ | refine gk_out ?_ | refine gk_loopret ?_ | refine gk_loopexit ?_) | (show GO _ _ _ _ _ (⟨some _, none, _⟩ :: _) _; first | refine go_op (hk := ?_) | (refine go_nw (hk := ?_); intro u; try simp only [List.length_cons, List.length_nil, List.nil_append, Nat.zero_add]) | (refine go_np (hk := ?_); intro id)) | (show GO _ _ _ _ _ (⟨none, none, _⟩ :: _) _; refine go_st (hk := ?_)) | (show GO _ _ _ _ _ (⟨_, some _, _⟩ :: _) _; first | refine go_in (hk := ?_) | refine go_out (hk := ?_) | refine go_void (hk := ?_)) | (show GK _ _ _ _ (blockK _ _ _); refine gk_past rfl ?_) | (show GC _ _ _ _ _ (.cond _ _ _) _; first | refine gc_yes (h1 := ?_) | refine gc_no (h1 := ?_))))
  refine gc_up k (fun i => [(0, .int .i64 (n : Int)), (1, .int .i64 (k : Int)), (5, .int .i64 (chs n i)), (6, .int .i64 (i : Int))]) (fun _ => []) (hb := ?_)
  intro i hi I ν m hk'
  have f := chs_facts n (by omega) i (by omega)
  have e : ((n - i : Nat) : Int) = (n : Int) - (i : Int) := by omega
  have e1 : chs n (i + 1) = chs n i * ((n - i : Nat) : Int) / ((i + 1 : Nat) : Int) := by rw [e]; rfl
  rw [← e] at f
  rw [e1] at hk'
  (repeat (first | with_reducible (first | refine go_nil ?_ | refine gk_seq ?_ | refine gc_seq ?_ | refine gc_reg ?_ | refine gc_skip ?_ | refine gk_block ?_ | refine gc_block ?_ | refine gc_exit ?_ | refine gc_ret ?_ | refine gk_seqret ?_ | refine gk_seqexit ?_ | refine gk_blockret ?_ | refine gk_out ?_ | refine gk_loopret ?_ | refine gk_loopexit ?_) | (show GO _ _ _ _ _ (⟨some _, none, _⟩ :: _) _; first | refine go_op (hk := ?_) | (refine go_nw (hk := ?_); intro u; try simp only [List.length_cons, List.length_nil, List.nil_append, Nat.zero_add]) | (refine go_np (hk := ?_); intro id)) | (show GO _ _ _ _ _ (⟨none, none, _⟩ :: _) _; refine go_st (hk := ?_)) | (show GO _ _ _ _ _ (⟨_, some _, _⟩ :: _) _; first | refine go_in (hk := ?_) | refine go_out (hk := ?_) | refine go_void (hk := ?_)) | (show GK _ _ _ _ (blockK _ _ _); refine gk_past rfl ?_) | (show GC _ _ _ _ _ (.cond _ _ _) _; first | refine gc_yes (h1 := ?_) | refine gc_no (h1 := ?_))))
  refine gc_cond rfl (fun h => ?_) (fun h => ?_)
  · (repeat (first | with_reducible (first | refine go_nil ?_ | refine gk_seq ?_ | refine gc_seq ?_ | refine gc_reg ?_ | refine gc_skip ?_ | refine gk_block ?_ | refine gc_block ?_ | refine gc_exit ?_ | refine gc_ret ?_ | refine gk_seqret ?_ | refine gk_seqexit ?_ | refine gk_blockret ?_ | refine gk_out ?_ | refine gk_loopret ?_ | refine gk_loopexit ?_) | (show GO _ _ _ _ _ (⟨some _, none, _⟩ :: _) _; first | refine go_op (hk := ?_) | (refine go_nw (hk := ?_); intro u; try simp only [List.length_cons, List.length_nil, List.nil_append, Nat.zero_add]) | (refine go_np (hk := ?_); intro id)) | (show GO _ _ _ _ _ (⟨none, none, _⟩ :: _) _; refine go_st (hk := ?_)) | (show GO _ _ _ _ _ (⟨_, some _, _⟩ :: _) _; first | refine go_in (hk := ?_) | refine go_out (hk := ?_) | refine go_void (hk := ?_)) | (show GK _ _ _ _ (blockK _ _ _); refine gk_past rfl ?_) | (show GC _ _ _ _ _ (.cond _ _ _) _; first | refine gc_yes (h1 := ?_) | refine gc_no (h1 := ?_))))
    exact gk_next (hk' (by omega))
  · (repeat (first | with_reducible (first | refine go_nil ?_ | refine gk_seq ?_ | refine gc_seq ?_ | refine gc_reg ?_ | refine gc_skip ?_ | refine gk_block ?_ | refine gc_block ?_ | refine gc_exit ?_ | refine gc_ret ?_ | refine gk_seqret ?_ | refine gk_seqexit ?_ | refine gk_blockret ?_ | refine gk_out ?_ | refine gk_loopret ?_ | refine gk_loopexit ?_) | (show GO _ _ _ _ _ (⟨some _, none, _⟩ :: _) _; first | refine go_op (hk := ?_) | (refine go_nw (hk := ?_); intro u; try simp only [List.length_cons, List.length_nil, List.nil_append, Nat.zero_add]) | (refine go_np (hk := ?_); intro id)) | (show GO _ _ _ _ _ (⟨none, none, _⟩ :: _) _; refine go_st (hk := ?_)) | (show GO _ _ _ _ _ (⟨_, some _, _⟩ :: _) _; first | refine go_in (hk := ?_) | refine go_out (hk := ?_) | refine go_void (hk := ?_)) | (show GK _ _ _ _ (blockK _ _ _); refine gk_past rfl ?_) | (show GC _ _ _ _ _ (.cond _ _ _) _; first | refine gc_yes (h1 := ?_) | refine gc_no (h1 := ?_))))
    have : i = k := by omega
    subst this
    exact gk_ret rfl fun H' hH => ⟨rfl, hH.leE⟩

theorem slice_cells {H : Heap} {a : AV} {xs : List Int} (h : Ints H a xs) : a.cells = [a] ∧ a.one = true := by
  have := h.sl
  cases a <;> simp [AV.isSlice] at this <;> exact ⟨rfl, rfl⟩

def ntA (L : List Nat) : List AV := L.map fun (n : Nat) => AV.int .i64 (n : Int)

theorem ntA_length (L : List Nat) : (ntA L).length = L.length := List.length_map ..

theorem ntA_get {L : List Nat} {i : Nat} (h : i < L.length) : (ntA L)[i]? = some (.int .i64 (L.getD i 0 : Nat)) := by
  unfold ntA
  rw [List.getElem?_map, List.getElem?_eq_getElem h, List.getD_eq_getElem?_getD, List.getElem?_eq_getElem h]
  rfl

theorem ntA_set {L : List Nat} {i v : Nat} (h : i < L.length) : (ntA L).take i ++ [.int .i64 (v : Int)] ++ (ntA L).drop (i + 1) = ntA (L.set i v) := by
  unfold ntA
  rw [List.map_set, List.set_eq_take_append_cons_drop, if_pos (by simpa using h)]
  simp

theorem stp_arrn {A : Heap} {X : List Nat} {E : List (Nat × AV)} {S : Sig} {x y : MX} {id off n j o : Nat} {k : IntKind} (hx : evE E x = some (.ptr id off)) (hy : evE E y = some (.int k (j : Int))) (hj : j < n) (ho : o = off + j) : Stp A X E S (.arra x y n 1) (Is (.ptr id o) S) :=
  stp_pure fun τ H m nid hE hS => by
    simp only [mstep, ev_of hE hx, ev_of hE hy]
    rw [if_pos ⟨by omega, by omega⟩, ho]
    simp

theorem stp_ldnt {A : Heap} {X : List Nat} {E : List (Nat × AV)} {S S0 : Sig} {p : MX} {id o es n : Nat} {L : List Nat} (hp : evE E p = some (.ptr id o)) (hs : Sel S ⟨.cell, .ptr id 0, es, n, ntA L⟩ S0) (ho : o < L.length) {v : Nat} (hv : L.getD o 0 = v) : Stp A X E S (.ld p 1 false) (Is (.int .i64 (v : Int)) S) :=
  stp_ldc1 hp hs (by rw [ntA_get ho, hv])

theorem stp_stnt {A : Heap} {X : List Nat} {E : List (Nat × AV)} {S S0 : Sig} {p x : MX} {id o es n v : Nat} {L : List Nat} (hp : evE E p = some (.ptr id o)) (hx : evE E x = some (.int .i64 (v : Int))) (hs : Sel S ⟨.cell, .ptr id 0, es, n, ntA L⟩ S0) (ho : o < L.length) {L' : List Nat} (hL : L.set o v = L') : Stp A X E S (.st p x 1) (Is .any (⟨.cell, .ptr id 0, es, n, ntA L'⟩ :: S0)) := by
  have h := stp_stc (A := A) (X := X) (E := E) (S := S) hp hx hs (j := 1) rfl rfl (by rw [ntA_length]; omega)
  rw [← hL, ← ntA_set ho]
  exact h

theorem Bd.set {b y : Int} {xs : List Int} {i : Nat} (h : Bd b xs) (hy : -b ≤ y ∧ y ≤ b) : Bd b (xs.set i y) := by
  intro x hx
  rcases List.mem_or_eq_of_mem_set hx with hx | rfl
  · exact h x hx
  · exact hy

structure P2 where
  a : Int
  b : Int

abbrev P2.v (g : P2) : AV := .tuple [.int .i64 g.a, .int .i64 g.b]

abbrev P2.lev (g : P2) : Prop := (0 ≤ g.a ∧ g.a ≤ 102) ∧ 0 ≤ g.b ∧ g.b ≤ 101

structure N3 where
  n : Int
  a : Int
  b : Int

abbrev N3.v (g : N3) : AV := .tuple [.int .i64 g.n, .int .i64 g.a, .int .i64 g.b]

theorem mul12 {a b : Int} {A B : Int} (ha : 0 ≤ a ∧ a ≤ A) (hb : 0 ≤ b ∧ b ≤ B) : 0 ≤ a * b ∧ a * b ≤ A * B := ⟨Int.mul_nonneg ha.1 hb.1, Int.mul_le_mul ha.2 hb.2 hb.1 (by omega)⟩

structure GK5 where
  u : AV
  xs : List Int
  lev : Int
  kd : List UInt8

abbrev GK5.v (g : GK5) : AV := .tuple [g.u, .int .i64 g.lev, .str g.kd]

inductive Way | all | down | up | share

def Way.val : Way → Int → Int → Int → Int
  | .all, x, n, _ => x * n
  | .down, x, n, p => x * (n - p)
  | .up, x, n, p => x * (n - p)
  | .share, x, n, p => (x * n + p) / (p + 1)

def pfOut (m n : Nat) (d : Int) (i k : Nat) : Prop := m < i ∨ n < k ∨ d < (i : Int) * n - (k : Int) * m ∨ (i : Int) * n - (k : Int) * m < -d

instance (m n : Nat) (d : Int) (i k : Nat) : Decidable (pfOut m n d i k) := by unfold pfOut; exact inferInstance

def pfN (m n : Nat) (d : Int) : Nat → Nat → Nat → Nat
  | 0, _, _ => 0
  | f + 1, i, k => if pfOut m n d i k then 0 else if i = m ∧ k = n then 1 else pfN m n d f (i + 1) k + pfN m n d f i (k + 1)

theorem pfN_le (m n : Nat) (d : Int) : ∀ f i k, pfN m n d f i k ≤ 2 ^ f
  | 0, _, _ => Nat.zero_le _
  | f + 1, i, k => by
    have h1 := pfN_le m n d f (i + 1) k
    have h2 := pfN_le m n d f i (k + 1)
    have h3 : 0 < 2 ^ f := Nat.two_pow_pos f
    rw [pfN, Nat.pow_succ]
    split
    · omega
    · split <;> omega

end Go.Rx.Try
