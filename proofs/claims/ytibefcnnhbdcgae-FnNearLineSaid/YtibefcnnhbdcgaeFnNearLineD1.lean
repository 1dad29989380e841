import Derived.Test.YtibefcnnhbdcgaeFnNearLineCode
import Derived.Test.YtibefcnnhbdcgaeRxJ
namespace Go.Rx.Try
open Go.Proofs
set_option maxRecDepth 100000
set_option maxHeartbeats 8000000
set_option linter.unusedSimpArgs false
set_option linter.unusedVariables false

theorem inRange_ok {H : Heap} {a b n : Int} : ACalls Try.prog fn_spec_inRange [.int .i64 n, .int .i64 a, .int .i64 b] H fun r H' => r = .bool (decide (a ≤ n ∧ n ≤ b)) ∧ H' = H := by
  refine ACalls.val ?_ rfl
  refine code_spec_inRange.go [] trivial (by simp) ?_
  unfold mc_spec_inRange
  (repeat (first | with_reducible (first | refine go_nil ?_ | refine gk_seq ?_ | refine gc_seq ?_ | refine gc_reg ?_ | refine gc_skip ?_ | refine gk_block ?_ | refine gc_block ?_ | refine gc_exit ?_ | refine gc_ret ?_ | refine gk_seqret ?_ | refine gk_seqexit ?_ | refine gk_blockret ?_ | refine gk_out ?_ | refine gk_loopret ?_ | refine gk_loopexit ?_) | (show GO _ _ _ _ _ (⟨some _, none, _⟩ :: _) _; first | refine go_op (hk := ?_) | (refine go_nw (hk := ?_); intro u; try simp only [List.length_cons, List.length_nil, List.nil_append, Nat.zero_add]) | (refine go_np (hk := ?_); intro id)) | (show GO _ _ _ _ _ (⟨none, none, _⟩ :: _) _; refine go_st (hk := ?_)) | (show GO _ _ _ _ _ (⟨_, some _, _⟩ :: _) _; first | refine go_in (hk := ?_) | refine go_out (hk := ?_) | refine go_void (hk := ?_)) | (show GK _ _ _ _ (blockK _ _ _); refine gk_past rfl ?_) | (show GC _ _ _ _ _ (.cond _ _ _) _; first | refine gc_yes (h1 := ?_) | refine gc_no (h1 := ?_))))
  refine go_split 10 rfl (fun h => ?_) (fun h => ?_)
  · (repeat (first | with_reducible (first | refine go_nil ?_ | refine gk_seq ?_ | refine gc_seq ?_ | refine gc_reg ?_ | refine gc_skip ?_ | refine gk_block ?_ | refine gc_block ?_ | refine gc_exit ?_ | refine gc_ret ?_ | refine gk_seqret ?_ | refine gk_seqexit ?_ | refine gk_blockret ?_ | refine gk_out ?_ | refine gk_loopret ?_ | refine gk_loopexit ?_) | (show GO _ _ _ _ _ (⟨some _, none, _⟩ :: _) _; first | refine go_op (hk := ?_) | (refine go_nw (hk := ?_); intro u; try simp only [List.length_cons, List.length_nil, List.nil_append, Nat.zero_add]) | (refine go_np (hk := ?_); intro id)) | (show GO _ _ _ _ _ (⟨none, none, _⟩ :: _) _; refine go_st (hk := ?_)) | (show GO _ _ _ _ _ (⟨_, some _, _⟩ :: _) _; first | refine go_in (hk := ?_) | refine go_out (hk := ?_) | refine go_void (hk := ?_)) | (show GK _ _ _ _ (blockK _ _ _); refine gk_past rfl ?_) | (show GC _ _ _ _ _ (.cond _ _ _) _; first | refine gc_yes (h1 := ?_) | refine gc_no (h1 := ?_))))
    refine gk_ret rfl fun H' hH => ⟨?_, hH.leE⟩
    simp [tupleOf, h]
  · (repeat (first | with_reducible (first | refine go_nil ?_ | refine gk_seq ?_ | refine gc_seq ?_ | refine gc_reg ?_ | refine gc_skip ?_ | refine gk_block ?_ | refine gc_block ?_ | refine gc_exit ?_ | refine gc_ret ?_ | refine gk_seqret ?_ | refine gk_seqexit ?_ | refine gk_blockret ?_ | refine gk_out ?_ | refine gk_loopret ?_ | refine gk_loopexit ?_) | (show GO _ _ _ _ _ (⟨some _, none, _⟩ :: _) _; first | refine go_op (hk := ?_) | (refine go_nw (hk := ?_); intro u; try simp only [List.length_cons, List.length_nil, List.nil_append, Nat.zero_add]) | (refine go_np (hk := ?_); intro id)) | (show GO _ _ _ _ _ (⟨none, none, _⟩ :: _) _; refine go_st (hk := ?_)) | (show GO _ _ _ _ _ (⟨_, some _, _⟩ :: _) _; first | refine go_in (hk := ?_) | refine go_out (hk := ?_) | refine go_void (hk := ?_)) | (show GK _ _ _ _ (blockK _ _ _); refine gk_past rfl ?_) | (show GC _ _ _ _ _ (.cond _ _ _) _; first | refine gc_yes (h1 := ?_) | refine gc_no (h1 := ?_))))
    refine gk_ret rfl fun H' hH => ⟨?_, hH.leE⟩
    simp [tupleOf, h]

def Data (xs : List Int) : Prop := xs.length ≤ 10 ∧ ∀ k < xs.length, -200 ≤ nth xs k ∧ nth xs k ≤ 200

noncomputable instance (xs : List Int) : Decidable (Data xs) := Classical.propDecidable _

theorem go_inRange {A : Heap} {X : List Nat} {E : List (Nat × AV)} {S : Sig} {K : St → Prop} {r : List MI} {d : Nat} {x y z : MX} {n a b : Int} (hx : evE E x = some (.int .i64 n) := by exact rfl) (hy : evE E y = some (.int .i64 a) := by exact rfl) (hz : evE E z = some (.int .i64 b) := by exact rfl)
    (hk : GO Try.prog A X ((d, .bool (decide (a ≤ n ∧ n ≤ b))) :: E) S r K) : GO Try.prog A X E S (⟨some d, none, .call fn_spec_inRange [x, y, z]⟩ :: r) K :=
  go_callp (by simp only [evsE, hx, hy, hz]) code_spec_inRange.callable (fun H hH => inRange_ok) hk

def Samples (xs ys : List Int) : Prop := (Data xs ∧ Data ys) ∧ xs.length + ys.length ≤ 10 ∧ 0 < xs.length ∧ 0 < ys.length

noncomputable instance (xs ys : List Int) : Decidable (Samples xs ys) := Classical.propDecidable _

def sgn (n : Int) : Int := if 0 < n then 1 else if n < 0 then -1 else 0

/-- a reader: its bytes, and its place -/
abbrev rdr (id : Nat) (bv : AV) (p : Nat) : Ch := ⟨.cell, .ptr id 0, 2, 1, [bv, .int .i64 (p : Int)]⟩

abbrev byt (bv : AV) (bs : List Int) : Ch := ⟨.ro, bv, 1, bs.length, bytesL bs⟩

def ByteOk (bs : List Int) : Prop := bs.length ≤ 2000 ∧ ∀ i, 0 ≤ nth bs i ∧ nth bs i ≤ 255

theorem pick_ok {A : Heap} {X : List Nat} {S S0 : Sig} {H : Heap} {id p : Nat} {bv : AV} {bs : List Int} {n : Int} (hS : SOk A X S H.size H) (hs : Sel S (rdr id bv p) S0) (hR : SubF S0 [byt bv bs]) (hb : ByteOk bs) (hp : p ≤ 1000000000) :
    ACalls Try.prog fn_spec_reader_pick [.ptr id 0, .int .i64 n] H fun r H' => ∃ x : Int, r = .int .i64 x ∧ SOk A X (rdr id bv (p + 1) :: S0) H'.size H' ∧ (0 ≤ x ∧ (x < n ∨ x = 0)) := by
  refine code_spec_reader_pick.gowg (T := fun _ => []) (C := fun _ => rdr id bv (p + 1)) hS hs rfl hR rfl (fun _ => rfl) (fun _ => rfl) (fun _ => rfl) (by simp) ?_
  intro X'
  unfold mc_spec_reader_pick
  (repeat (first | with_reducible (first | refine go_nil ?_ | refine gk_seq ?_ | refine gc_seq ?_ | refine gc_reg ?_ | refine gc_skip ?_ | refine gk_block ?_ | refine gc_block ?_ | refine gc_exit ?_ | refine gc_ret ?_ | refine gk_seqret ?_ | refine gk_seqexit ?_ | refine gk_blockret ?_ | refine gk_out ?_ | refine gk_loopret ?_ | refine gk_loopexit ?_ | refine gq_nil ?_) | (with_reducible refine gc_drq ?_; intro _) | (show GO _ _ _ _ _ (⟨some _, none, _⟩ :: _) _; first | refine go_op (hk := ?_) | (refine go_nw (hk := ?_); intro u; try simp only [List.length_cons, List.length_nil, List.nil_append, Nat.zero_add]) | (refine go_np (hk := ?_); intro id)) | (show GQ _ _ _ _ _ _ _ (⟨some _, none, _⟩ :: _) _; first | refine gq_op (hk := ?_) | (refine gq_nw (hk := ?_); intro u; try simp only [List.length_cons, List.length_nil, List.nil_append, Nat.zero_add])) | (show GO _ _ _ _ _ (⟨none, none, _⟩ :: _) _; refine go_st (hk := ?_)) | (show GO _ _ _ _ _ (⟨_, some _, _⟩ :: _) _; first | refine go_in (hk := ?_) | refine go_out (hk := ?_) | refine go_void (hk := ?_)) | (show GQ _ _ _ _ _ _ _ (⟨_, some _, _⟩ :: _) _; first | refine gq_in (hk := ?_) | refine gq_out (hk := ?_) | refine gq_void (hk := ?_)) | (show GK _ _ _ _ (blockK _ _ _); refine gk_past rfl ?_) | (show GC _ _ _ _ _ (.cond _ _ _) _; first | refine gc_yes (h1 := ?_) | refine gc_no (h1 := ?_))))
  have hb1 := hb.1
  refine go_split 17 rfl (fun h => ?_) (fun h => ?_)
  · (repeat (first | with_reducible (first | refine go_nil ?_ | refine gk_seq ?_ | refine gc_seq ?_ | refine gc_reg ?_ | refine gc_skip ?_ | refine gk_block ?_ | refine gc_block ?_ | refine gc_exit ?_ | refine gc_ret ?_ | refine gk_seqret ?_ | refine gk_seqexit ?_ | refine gk_blockret ?_ | refine gk_out ?_ | refine gk_loopret ?_ | refine gk_loopexit ?_ | refine gq_nil ?_) | (with_reducible refine gc_drq ?_; intro _) | (show GO _ _ _ _ _ (⟨some _, none, _⟩ :: _) _; first | refine go_op (hk := ?_) | (refine go_nw (hk := ?_); intro u; try simp only [List.length_cons, List.length_nil, List.nil_append, Nat.zero_add]) | (refine go_np (hk := ?_); intro id)) | (show GQ _ _ _ _ _ _ _ (⟨some _, none, _⟩ :: _) _; first | refine gq_op (hk := ?_) | (refine gq_nw (hk := ?_); intro u; try simp only [List.length_cons, List.length_nil, List.nil_append, Nat.zero_add])) | (show GO _ _ _ _ _ (⟨none, none, _⟩ :: _) _; refine go_st (hk := ?_)) | (show GO _ _ _ _ _ (⟨_, some _, _⟩ :: _) _; first | refine go_in (hk := ?_) | refine go_out (hk := ?_) | refine go_void (hk := ?_)) | (show GQ _ _ _ _ _ _ _ (⟨_, some _, _⟩ :: _) _; first | refine gq_in (hk := ?_) | refine gq_out (hk := ?_) | refine gq_void (hk := ?_)) | (show GK _ _ _ _ (blockK _ _ _); refine gk_past rfl ?_) | (show GC _ _ _ _ _ (.cond _ _ _) _; first | refine gc_yes (h1 := ?_) | refine gc_no (h1 := ?_))))
    exact gk_ret rfl fun H' hH => ⟨0, rfl, by omega, hH.sub (by exact Sub.auto)⟩
  (repeat (first | with_reducible (first | refine go_nil ?_ | refine gk_seq ?_ | refine gc_seq ?_ | refine gc_reg ?_ | refine gc_skip ?_ | refine gk_block ?_ | refine gc_block ?_ | refine gc_exit ?_ | refine gc_ret ?_ | refine gk_seqret ?_ | refine gk_seqexit ?_ | refine gk_blockret ?_ | refine gk_out ?_ | refine gk_loopret ?_ | refine gk_loopexit ?_ | refine gq_nil ?_) | (with_reducible refine gc_drq ?_; intro _) | (show GO _ _ _ _ _ (⟨some _, none, _⟩ :: _) _; first | refine go_op (hk := ?_) | (refine go_nw (hk := ?_); intro u; try simp only [List.length_cons, List.length_nil, List.nil_append, Nat.zero_add]) | (refine go_np (hk := ?_); intro id)) | (show GQ _ _ _ _ _ _ _ (⟨some _, none, _⟩ :: _) _; first | refine gq_op (hk := ?_) | (refine gq_nw (hk := ?_); intro u; try simp only [List.length_cons, List.length_nil, List.nil_append, Nat.zero_add])) | (show GO _ _ _ _ _ (⟨none, none, _⟩ :: _) _; refine go_st (hk := ?_)) | (show GO _ _ _ _ _ (⟨_, some _, _⟩ :: _) _; first | refine go_in (hk := ?_) | refine go_out (hk := ?_) | refine go_void (hk := ?_)) | (show GQ _ _ _ _ _ _ _ (⟨_, some _, _⟩ :: _) _; first | refine gq_in (hk := ?_) | refine gq_out (hk := ?_) | refine gq_void (hk := ?_)) | (show GK _ _ _ _ (blockK _ _ _); refine gk_past rfl ?_) | (show GC _ _ _ _ _ (.cond _ _ _) _; first | refine gc_yes (h1 := ?_) | refine gc_no (h1 := ?_))))
  refine gc_cond rfl (fun h2 => ?_) (fun h2 => ?_)
  · (repeat (first | with_reducible (first | refine go_nil ?_ | refine gk_seq ?_ | refine gc_seq ?_ | refine gc_reg ?_ | refine gc_skip ?_ | refine gk_block ?_ | refine gc_block ?_ | refine gc_exit ?_ | refine gc_ret ?_ | refine gk_seqret ?_ | refine gk_seqexit ?_ | refine gk_blockret ?_ | refine gk_out ?_ | refine gk_loopret ?_ | refine gk_loopexit ?_ | refine gq_nil ?_) | (with_reducible refine gc_drq ?_; intro _) | (show GO _ _ _ _ _ (⟨some _, none, _⟩ :: _) _; first | refine go_op (hk := ?_) | (refine go_nw (hk := ?_); intro u; try simp only [List.length_cons, List.length_nil, List.nil_append, Nat.zero_add]) | (refine go_np (hk := ?_); intro id)) | (show GQ _ _ _ _ _ _ _ (⟨some _, none, _⟩ :: _) _; first | refine gq_op (hk := ?_) | (refine gq_nw (hk := ?_); intro u; try simp only [List.length_cons, List.length_nil, List.nil_append, Nat.zero_add])) | (show GO _ _ _ _ _ (⟨none, none, _⟩ :: _) _; refine go_st (hk := ?_)) | (show GO _ _ _ _ _ (⟨_, some _, _⟩ :: _) _; first | refine go_in (hk := ?_) | refine go_out (hk := ?_) | refine go_void (hk := ?_)) | (show GQ _ _ _ _ _ _ _ (⟨_, some _, _⟩ :: _) _; first | refine gq_in (hk := ?_) | refine gq_out (hk := ?_) | refine gq_void (hk := ?_)) | (show GK _ _ _ _ (blockK _ _ _); refine gk_past rfl ?_) | (show GC _ _ _ _ _ (.cond _ _ _) _; first | refine gc_yes (h1 := ?_) | refine gc_no (h1 := ?_))))
    exact gk_ret rfl fun H' hH => ⟨0, rfl, by omega, hH.sub (by exact Sub.auto)⟩
  (repeat (first | with_reducible (first | refine go_nil ?_ | refine gk_seq ?_ | refine gc_seq ?_ | refine gc_reg ?_ | refine gc_skip ?_ | refine gk_block ?_ | refine gc_block ?_ | refine gc_exit ?_ | refine gc_ret ?_ | refine gk_seqret ?_ | refine gk_seqexit ?_ | refine gk_blockret ?_ | refine gk_out ?_ | refine gk_loopret ?_ | refine gk_loopexit ?_ | refine gq_nil ?_) | (with_reducible refine gc_drq ?_; intro _) | (show GO _ _ _ _ _ (⟨some _, none, _⟩ :: _) _; first | refine go_op (hk := ?_) | (refine go_nw (hk := ?_); intro u; try simp only [List.length_cons, List.length_nil, List.nil_append, Nat.zero_add]) | (refine go_np (hk := ?_); intro id)) | (show GQ _ _ _ _ _ _ _ (⟨some _, none, _⟩ :: _) _; first | refine gq_op (hk := ?_) | (refine gq_nw (hk := ?_); intro u; try simp only [List.length_cons, List.length_nil, List.nil_append, Nat.zero_add])) | (show GO _ _ _ _ _ (⟨none, none, _⟩ :: _) _; refine go_st (hk := ?_)) | (show GO _ _ _ _ _ (⟨_, some _, _⟩ :: _) _; first | refine go_in (hk := ?_) | refine go_out (hk := ?_) | refine go_void (hk := ?_)) | (show GQ _ _ _ _ _ _ _ (⟨_, some _, _⟩ :: _) _; first | refine gq_in (hk := ?_) | refine gq_out (hk := ?_) | refine gq_void (hk := ?_)) | (show GK _ _ _ _ (blockK _ _ _); refine gk_past rfl ?_) | (show GC _ _ _ _ _ (.cond _ _ _) _; first | refine gc_yes (h1 := ?_) | refine gc_no (h1 := ?_))))
  have hb2 := hb.2
  refine gc_recall 5 (.int .i64 (p : Int)) rfl (by first | rfl | (congr 1; omega)) ?_
  refine gc_cond rfl (fun h3 => ?_) (fun h3 => ?_)
  · have hq := hb2 p
    (repeat (first | with_reducible (first | refine go_nil ?_ | refine gk_seq ?_ | refine gc_seq ?_ | refine gc_reg ?_ | refine gc_skip ?_ | refine gk_block ?_ | refine gc_block ?_ | refine gc_exit ?_ | refine gc_ret ?_ | refine gk_seqret ?_ | refine gk_seqexit ?_ | refine gk_blockret ?_ | refine gk_out ?_ | refine gk_loopret ?_ | refine gk_loopexit ?_ | refine gq_nil ?_) | (with_reducible refine gc_drq ?_; intro _) | (show GO _ _ _ _ _ (⟨some _, none, _⟩ :: _) _; first | refine go_op (hk := ?_) | (refine go_nw (hk := ?_); intro u; try simp only [List.length_cons, List.length_nil, List.nil_append, Nat.zero_add]) | (refine go_np (hk := ?_); intro id)) | (show GQ _ _ _ _ _ _ _ (⟨some _, none, _⟩ :: _) _; first | refine gq_op (hk := ?_) | (refine gq_nw (hk := ?_); intro u; try simp only [List.length_cons, List.length_nil, List.nil_append, Nat.zero_add])) | (show GO _ _ _ _ _ (⟨none, none, _⟩ :: _) _; refine go_st (hk := ?_)) | (show GO _ _ _ _ _ (⟨_, some _, _⟩ :: _) _; first | refine go_in (hk := ?_) | refine go_out (hk := ?_) | refine go_void (hk := ?_)) | (show GQ _ _ _ _ _ _ _ (⟨_, some _, _⟩ :: _) _; first | refine gq_in (hk := ?_) | refine gq_out (hk := ?_) | refine gq_void (hk := ?_)) | (show GK _ _ _ _ (blockK _ _ _); refine gk_past rfl ?_) | (show GC _ _ _ _ _ (.cond _ _ _) _; first | refine gc_yes (h1 := ?_) | refine gc_no (h1 := ?_))))
    refine gk_ret rfl fun H' hH => ⟨nth bs p % n, rfl, ?_, hH.sub (by exact Sub.auto)⟩
    have h4 := Int.emod_nonneg (nth bs p) (b := n) (by omega)
    have h5 := Int.emod_lt_of_pos (nth bs p) (b := n) (by omega)
    omega
  have q0 : (0 : Int) < bs.length := by omega
  have q1 := Int.emod_nonneg (p : Int) (b := bs.length) (by omega)
  have q2 := Int.emod_lt_of_pos (p : Int) q0
  have q3 := Int.emod_nonneg ((p : Int) * 7 + 3) (b := bs.length) (by omega)
  have q4 := Int.emod_lt_of_pos ((p : Int) * 7 + 3) q0
  have q5 := Int.ediv_nonneg (a := (p : Int)) (b := bs.length) (by omega) (by omega)
  have q6 := Int.ediv_le_self (a := (p : Int)) (bs.length) (by omega)
  have q7 := hb2 ((p : Int) % bs.length).toNat
  have q8 := hb2 (((p : Int) * 7 + 3) % bs.length).toNat
  (repeat (first | with_reducible (first | refine go_nil ?_ | refine gk_seq ?_ | refine gc_seq ?_ | refine gc_reg ?_ | refine gc_skip ?_ | refine gk_block ?_ | refine gc_block ?_ | refine gc_exit ?_ | refine gc_ret ?_ | refine gk_seqret ?_ | refine gk_seqexit ?_ | refine gk_blockret ?_ | refine gk_out ?_ | refine gk_loopret ?_ | refine gk_loopexit ?_ | refine gq_nil ?_) | (with_reducible refine gc_drq ?_; intro _) | (show GO _ _ _ _ _ (⟨some _, none, _⟩ :: _) _; first | refine go_op (hk := ?_) | (refine go_nw (hk := ?_); intro u; try simp only [List.length_cons, List.length_nil, List.nil_append, Nat.zero_add]) | (refine go_np (hk := ?_); intro id)) | (show GQ _ _ _ _ _ _ _ (⟨some _, none, _⟩ :: _) _; first | refine gq_op (hk := ?_) | (refine gq_nw (hk := ?_); intro u; try simp only [List.length_cons, List.length_nil, List.nil_append, Nat.zero_add])) | (show GO _ _ _ _ _ (⟨none, none, _⟩ :: _) _; refine go_st (hk := ?_)) | (show GO _ _ _ _ _ (⟨_, some _, _⟩ :: _) _; first | refine go_in (hk := ?_) | refine go_out (hk := ?_) | refine go_void (hk := ?_)) | (show GQ _ _ _ _ _ _ _ (⟨_, some _, _⟩ :: _) _; first | refine gq_in (hk := ?_) | refine gq_out (hk := ?_) | refine gq_void (hk := ?_)) | (show GK _ _ _ _ (blockK _ _ _); refine gk_past rfl ?_) | (show GC _ _ _ _ _ (.cond _ _ _) _; first | refine gc_yes (h1 := ?_) | refine gc_no (h1 := ?_))))
  refine gk_ret rfl fun H' hH => ⟨_, rfl, ?_, hH.sub (by exact Sub.auto)⟩
  generalize ((_ ^^^ _ : Nat) : Int) = z
  have h4 := Int.emod_nonneg z (b := n) (by omega)
  have h5 := Int.emod_lt_of_pos z (b := n) (by omega)
  omega

theorem nth_mem {xs : List Int} {i : Nat} (h : i < xs.length) : nth xs i ∈ xs := by rw [nth_of h]; exact List.getElem_mem h

theorem one_ok {A : Heap} {X : List Nat} {S S0 : Sig} {H : Heap} {id p m : Nat} {bv lv : AV} {bs xs : List Int} (hS : SOk A X S H.size H) (hs : Sel S (rdr id bv p) S0) (hR : SubF S0 [byt bv bs, .roI lv m xs]) (hm : xs.length = m) (hb : ByteOk bs) (hp : p ≤ 1000000000) (hn : 0 < m) (hx : m ≤ 1000) :
    ACalls Try.prog fn_spec_reader_one [.ptr id 0, lv] H fun r H' => ∃ x : Int, r = .int .i64 x ∧ SOk A X (rdr id bv (p + 1) :: S0) H'.size H' ∧ x ∈ xs := by
  refine code_spec_reader_one.gowg (T := fun _ => []) (C := fun _ => rdr id bv (p + 1)) hS hs rfl hR rfl (fun _ => rfl) (fun _ => rfl) (fun _ => rfl) (by simp) ?_
  intro X'
  unfold mc_spec_reader_one
  (repeat (first | with_reducible (first | refine go_nil ?_ | refine gk_seq ?_ | refine gc_seq ?_ | refine gc_reg ?_ | refine gc_skip ?_ | refine gk_block ?_ | refine gc_block ?_ | refine gc_exit ?_ | refine gc_ret ?_ | refine gk_seqret ?_ | refine gk_seqexit ?_ | refine gk_blockret ?_ | refine gk_out ?_ | refine gk_loopret ?_ | refine gk_loopexit ?_) | (show GO _ _ _ _ _ (⟨some _, none, .call _ _⟩ :: _) _; first | (refine go_callg rfl code_spec_reader_pick.callable (fun H hH => pick_ok hH (by exact Sel.auto) (by exact SubF.auto) (by assumption) (by omega)) ?_; intro g hg)) | (show GO _ _ _ _ _ (⟨some _, none, _⟩ :: _) _; first | refine go_op (hk := ?_) | (refine go_nw (hk := ?_); intro u; try simp only [List.length_cons, List.length_nil, List.nil_append, Nat.zero_add]) | (refine go_np (hk := ?_); intro id)) | (show GO _ _ _ _ _ (⟨none, none, _⟩ :: _) _; refine go_st (hk := ?_)) | (show GO _ _ _ _ _ (⟨_, some _, _⟩ :: _) _; first | refine go_in (hk := ?_) | refine go_out (hk := ?_) | refine go_void (hk := ?_)) | (show GK _ _ _ _ (blockK _ _ _); refine gk_past rfl ?_) | (show GC _ _ _ _ _ (.cond _ _ _) _; first | refine gc_yes (h1 := ?_) | refine gc_no (h1 := ?_))))
  exact gk_ret rfl fun H' hH => ⟨_, rfl, nth_mem (by omega), hH.sub (by exact Sub.auto)⟩

structure RG where
  id : Nat
  v : AV
  bs : List Int

theorem newReader_ok {A : Heap} {X : List Nat} {S : Sig} {H : Heap} {cv : AV} {bs : List Int} (hS : SOk A X S H.size H) (hh : Has S cv 1 bs.length (bytesL bs)) (hb : ∀ i, 0 ≤ nth bs i ∧ nth bs i ≤ 255) (hl : bs.length ≤ 1048576) :
    ACalls Try.prog fn_spec_newReader [cv] H fun r H' => ∃ g : RG, r = .ptr g.id 0 ∧ SOk A X [rdr g.id g.v 0, byt g.v g.bs] H'.size H' ∧ ByteOk g.bs := by
  have hv := hS.valsA hh
  suffices hq : ACalls Try.prog fn_spec_newReader [cv] H fun r H' => ∃ g : RG, r = .ptr g.id 0 ∧ ByteOk g.bs ∧ SOk H [] [rdr g.id g.v 0, byt g.v g.bs] H'.size H' by
    refine hq.mono ?_
    rintro r H' ⟨g, h1, h2, h3⟩
    exact ⟨g, h1, hS.over h3, h2⟩
  refine code_spec_newReader.go [byt cv bs] ⟨⟨rfl, hv⟩, trivial⟩ (by simp) ?_
  unfold mc_spec_newReader
  (repeat (first | with_reducible (first | refine go_nil ?_ | refine gk_seq ?_ | refine gc_seq ?_ | refine gc_reg ?_ | refine gc_skip ?_ | refine gk_block ?_ | refine gc_block ?_ | refine gc_exit ?_ | refine gc_ret ?_ | refine gk_seqret ?_ | refine gk_seqexit ?_ | refine gk_blockret ?_ | refine gk_out ?_ | refine gk_loopret ?_ | refine gk_loopexit ?_) | (show GO _ _ _ _ _ (⟨some _, none, _⟩ :: _) _; first | refine go_op (hk := ?_) | (refine go_nw (hk := ?_); intro u; try simp only [List.length_cons, List.length_nil, List.nil_append, Nat.zero_add]) | (refine go_np (hk := ?_); intro id)) | (show GO _ _ _ _ _ (⟨none, none, _⟩ :: _) _; refine go_st (hk := ?_)) | (show GO _ _ _ _ _ (⟨_, some _, _⟩ :: _) _; first | refine go_in (hk := ?_) | refine go_out (hk := ?_) | refine go_void (hk := ?_)) | (show GK _ _ _ _ (blockK _ _ _); refine gk_past rfl ?_) | (show GC _ _ _ _ _ (.cond _ _ _) _; first | refine gc_yes (h1 := ?_) | refine gc_no (h1 := ?_))))
  refine gc_cond rfl (fun h => ?_) (fun h => ?_)
  · (repeat (first | with_reducible (first | refine go_nil ?_ | refine gk_seq ?_ | refine gc_seq ?_ | refine gc_reg ?_ | refine gc_skip ?_ | refine gk_block ?_ | refine gc_block ?_ | refine gc_exit ?_ | refine gc_ret ?_ | refine gk_seqret ?_ | refine gk_seqexit ?_ | refine gk_blockret ?_ | refine gk_out ?_ | refine gk_loopret ?_ | refine gk_loopexit ?_) | (show GO _ _ _ _ _ (⟨some _, none, _⟩ :: _) _; first | refine go_op (hk := ?_) | (refine go_nw (hk := ?_); intro u; try simp only [List.length_cons, List.length_nil, List.nil_append, Nat.zero_add]) | (refine go_np (hk := ?_); intro id)) | (show GO _ _ _ _ _ (⟨none, none, _⟩ :: _) _; refine go_st (hk := ?_)) | (show GO _ _ _ _ _ (⟨_, some _, _⟩ :: _) _; first | refine go_in (hk := ?_) | refine go_out (hk := ?_) | refine go_void (hk := ?_)) | (show GK _ _ _ _ (blockK _ _ _); refine gk_past rfl ?_) | (show GC _ _ _ _ _ (.cond _ _ _) _; first | refine gc_yes (h1 := ?_) | refine gc_no (h1 := ?_))))
    refine go_new rfl (stp_sl (l := 0) (h := 2000) rfl Sel.head (.inl ⟨rfl, rfl⟩) (.inr ⟨_, rfl, rfl⟩) ⟨by omega, by omega⟩) (fun u => ?_)
    have e : ((bytesL bs).drop (0 * 1)).take ((2000 - 0) * 1) = bytesL (bs.take 2000) := by simp [bytesL, List.map_take]
    have e2 : 2000 - 0 = (bs.take 2000).length := by simp; omega
    have e3 : (bs.take 2000).length ≤ 2000 := by omega
    rw [e, e2]
    (repeat (first | with_reducible (first | refine go_nil ?_ | refine gk_seq ?_ | refine gc_seq ?_ | refine gc_reg ?_ | refine gc_skip ?_ | refine gk_block ?_ | refine gc_block ?_ | refine gc_exit ?_ | refine gc_ret ?_ | refine gk_seqret ?_ | refine gk_seqexit ?_ | refine gk_blockret ?_ | refine gk_out ?_ | refine gk_loopret ?_ | refine gk_loopexit ?_) | (show GO _ _ _ _ _ (⟨some _, none, _⟩ :: _) _; first | refine go_op (hk := ?_) | (refine go_nw (hk := ?_); intro u; try simp only [List.length_cons, List.length_nil, List.nil_append, Nat.zero_add]) | (refine go_np (hk := ?_); intro id)) | (show GO _ _ _ _ _ (⟨none, none, _⟩ :: _) _; refine go_st (hk := ?_)) | (show GO _ _ _ _ _ (⟨_, some _, _⟩ :: _) _; first | refine go_in (hk := ?_) | refine go_out (hk := ?_) | refine go_void (hk := ?_)) | (show GK _ _ _ _ (blockK _ _ _); refine gk_past rfl ?_) | (show GC _ _ _ _ _ (.cond _ _ _) _; first | refine gc_yes (h1 := ?_) | refine gc_no (h1 := ?_))))
    refine go_know (fun m H h => (h.valsA (v := u) (by exact Has.auto)).sl) (fun hsl => ?_)
    obtain ⟨hc1, hc2⟩ := slice_cells hsl
    refine go_is rfl (stp_bld (l := [(0, 1, u)]) (cs := [u, .int .i64 0]) rfl (by simp [fillL, hc1, hc2])) ?_
    refine go_newp rfl (stp_box (cs := [u, .int .i64 0]) rfl (by rw [AV.cells]) (by simp only [List.all_cons, List.all_nil, hc2]; rfl)) (fun id => ?_)
    (repeat (first | with_reducible (first | refine go_nil ?_ | refine gk_seq ?_ | refine gc_seq ?_ | refine gc_reg ?_ | refine gc_skip ?_ | refine gk_block ?_ | refine gc_block ?_ | refine gc_exit ?_ | refine gc_ret ?_ | refine gk_seqret ?_ | refine gk_seqexit ?_ | refine gk_blockret ?_ | refine gk_out ?_ | refine gk_loopret ?_ | refine gk_loopexit ?_) | (show GO _ _ _ _ _ (⟨some _, none, _⟩ :: _) _; first | refine go_op (hk := ?_) | (refine go_nw (hk := ?_); intro u; try simp only [List.length_cons, List.length_nil, List.nil_append, Nat.zero_add]) | (refine go_np (hk := ?_); intro id)) | (show GO _ _ _ _ _ (⟨none, none, _⟩ :: _) _; refine go_st (hk := ?_)) | (show GO _ _ _ _ _ (⟨_, some _, _⟩ :: _) _; first | refine go_in (hk := ?_) | refine go_out (hk := ?_) | refine go_void (hk := ?_)) | (show GK _ _ _ _ (blockK _ _ _); refine gk_past rfl ?_) | (show GC _ _ _ _ _ (.cond _ _ _) _; first | refine gc_yes (h1 := ?_) | refine gc_no (h1 := ?_))))
    refine gk_ret rfl fun H' hH => ⟨⟨id, u, bs.take 2000⟩, rfl, ⟨e3, fun i => ?_⟩, hH.sub (by exact Sub.auto)⟩
    have := hb i
    simp only [nth, List.getD_eq_getElem?_getD, List.getElem?_take] at this ⊢
    split
    · exact this
    · simp
  · (repeat (first | with_reducible (first | refine go_nil ?_ | refine gk_seq ?_ | refine gc_seq ?_ | refine gc_reg ?_ | refine gc_skip ?_ | refine gk_block ?_ | refine gc_block ?_ | refine gc_exit ?_ | refine gc_ret ?_ | refine gk_seqret ?_ | refine gk_seqexit ?_ | refine gk_blockret ?_ | refine gk_out ?_ | refine gk_loopret ?_ | refine gk_loopexit ?_) | (show GO _ _ _ _ _ (⟨some _, none, _⟩ :: _) _; first | refine go_op (hk := ?_) | (refine go_nw (hk := ?_); intro u; try simp only [List.length_cons, List.length_nil, List.nil_append, Nat.zero_add]) | (refine go_np (hk := ?_); intro id)) | (show GO _ _ _ _ _ (⟨none, none, _⟩ :: _) _; refine go_st (hk := ?_)) | (show GO _ _ _ _ _ (⟨_, some _, _⟩ :: _) _; first | refine go_in (hk := ?_) | refine go_out (hk := ?_) | refine go_void (hk := ?_)) | (show GK _ _ _ _ (blockK _ _ _); refine gk_past rfl ?_) | (show GC _ _ _ _ _ (.cond _ _ _) _; first | refine gc_yes (h1 := ?_) | refine gc_no (h1 := ?_))))
    refine go_know (fun m H h => (h.valsA (v := cv) (by exact Has.auto)).sl) (fun hsl => ?_)
    obtain ⟨hc1, hc2⟩ := slice_cells hsl
    refine go_is rfl (stp_bld (l := [(0, 1, cv)]) (cs := [cv, .int .i64 0]) rfl (by simp [fillL, hc1, hc2])) ?_
    refine go_newp rfl (stp_box (cs := [cv, .int .i64 0]) rfl (by rw [AV.cells]) (by simp only [List.all_cons, List.all_nil, hc2]; rfl)) (fun id => ?_)
    (repeat (first | with_reducible (first | refine go_nil ?_ | refine gk_seq ?_ | refine gc_seq ?_ | refine gc_reg ?_ | refine gc_skip ?_ | refine gk_block ?_ | refine gc_block ?_ | refine gc_exit ?_ | refine gc_ret ?_ | refine gk_seqret ?_ | refine gk_seqexit ?_ | refine gk_blockret ?_ | refine gk_out ?_ | refine gk_loopret ?_ | refine gk_loopexit ?_) | (show GO _ _ _ _ _ (⟨some _, none, _⟩ :: _) _; first | refine go_op (hk := ?_) | (refine go_nw (hk := ?_); intro u; try simp only [List.length_cons, List.length_nil, List.nil_append, Nat.zero_add]) | (refine go_np (hk := ?_); intro id)) | (show GO _ _ _ _ _ (⟨none, none, _⟩ :: _) _; refine go_st (hk := ?_)) | (show GO _ _ _ _ _ (⟨_, some _, _⟩ :: _) _; first | refine go_in (hk := ?_) | refine go_out (hk := ?_) | refine go_void (hk := ?_)) | (show GK _ _ _ _ (blockK _ _ _); refine gk_past rfl ?_) | (show GC _ _ _ _ _ (.cond _ _ _) _; first | refine gc_yes (h1 := ?_) | refine gc_no (h1 := ?_))))
    exact gk_ret rfl fun H' hH => ⟨⟨id, cv, bs⟩, rfl, ⟨by show bs.length ≤ 2000; omega, hb⟩, hH.sub (by exact Sub.auto)⟩

theorem sok_keep {A : Heap} {X : List Nat} {S S0 : Sig} {H H' : Heap} {c : Ch} {T : Sig} (h : SOk A X S H.size H) (hs : Sel S c S0) (hw : c.k.wr = true) (h1 : SOk H [] T H'.size H') (hT : ∀ d ∈ T, d.k.wr = true ∨ ∃ e ∈ S0, d.v.bid = e.v.bid) : SOk A X (T ++ [c]) H'.size H' := by
  have h2 := h.over h1
  have hc := (h.sel hs).ch c (by simp)
  have hap := hs.ap h.ap
  rw [List.pairwise_cons] at hap
  refine ⟨h2.le, h2.am, h2.mh, fun d hd => ?_, ?_⟩
  · rcases List.mem_append.1 hd with hd | hd
    · exact h2.ch d hd
    · simp only [List.mem_cons, List.not_mem_nil, or_false] at hd
      subst hd
      exact hc.mono h1.le.size fun k hk => h1.le.get k (hc.1 k hk) (by simp)
  · rw [List.pairwise_append]
    refine ⟨h2.ap, by simp, fun d hd e he => ?_⟩
    simp only [List.mem_cons, List.not_mem_nil, or_false] at he
    subst he
    intro _ k h3 h4
    rcases hT d hd with h5 | ⟨f, h5, h6⟩
    · rcases (h1.ch d hd).own h5 h3 with h7 | h7
      · have := hc.1 k h4; omega
      · simp at h7
    · exact hap.1 f h5 (.inl hw) k h4 (h6 ▸ h3)

theorem has_mem {S : Sig} {v : AV} {es n : Nat} {cs : List AV} (h : Has S v es n cs) : ∃ e ∈ S, e.v = v := by
  induction h with
  | ro => exact ⟨_, List.Mem.head _, rfl⟩
  | rw => exact ⟨_, List.Mem.head _, rfl⟩
  | tail h ih => obtain ⟨e, h1, h2⟩ := ih; exact ⟨e, List.Mem.tail _ h1, h2⟩

/-- the same, beside a cell of one's own -/
theorem newReaderC_ok {A : Heap} {X : List Nat} {S S0 : Sig} {H : Heap} {c : Ch} {cv : AV} {bs : List Int} (hS : SOk A X S H.size H) (hs : Sel S c S0) (hwr : c.k.wr = true) (hh : Has S0 cv 1 bs.length (bytesL bs)) (hb : ∀ i, 0 ≤ nth bs i ∧ nth bs i ≤ 255) (hl : bs.length ≤ 1048576) :
    ACalls Try.prog fn_spec_newReader [cv] H fun r H' => ∃ g : RG, r = .ptr g.id 0 ∧ SOk A X [rdr g.id g.v 0, byt g.v g.bs, c] H'.size H' ∧ ByteOk g.bs := by
  have hv := (hS.sel hs).valsA (.tail hh)
  suffices hq : ACalls Try.prog fn_spec_newReader [cv] H fun r H' => ∃ g : RG, r = .ptr g.id 0 ∧ ByteOk g.bs ∧ g.v.bid = cv.bid ∧ SOk H [] [rdr g.id g.v 0, byt g.v g.bs] H'.size H' by
    refine hq.mono ?_
    rintro r H' ⟨g, h1, h2, h4, h3⟩
    obtain ⟨e, he, hev⟩ := has_mem hh
    refine ⟨g, h1, sok_keep hS hs hwr h3 fun d hd => ?_, h2⟩
    rcases List.mem_cons.1 hd with rfl | hd
    · exact .inl rfl
    · simp only [List.mem_cons, List.not_mem_nil, or_false] at hd
      subst hd
      exact .inr ⟨e, he, by rw [hev]; exact h4⟩
  refine code_spec_newReader.go [byt cv bs] ⟨⟨rfl, hv⟩, trivial⟩ (by simp) ?_
  unfold mc_spec_newReader
  (repeat (first | with_reducible (first | refine go_nil ?_ | refine gk_seq ?_ | refine gc_seq ?_ | refine gc_reg ?_ | refine gc_skip ?_ | refine gk_block ?_ | refine gc_block ?_ | refine gc_exit ?_ | refine gc_ret ?_ | refine gk_seqret ?_ | refine gk_seqexit ?_ | refine gk_blockret ?_ | refine gk_out ?_ | refine gk_loopret ?_ | refine gk_loopexit ?_) | (show GO _ _ _ _ _ (⟨some _, none, _⟩ :: _) _; first | refine go_op (hk := ?_) | (refine go_nw (hk := ?_); intro u; try simp only [List.length_cons, List.length_nil, List.nil_append, Nat.zero_add]) | (refine go_np (hk := ?_); intro id)) | (show GO _ _ _ _ _ (⟨none, none, _⟩ :: _) _; refine go_st (hk := ?_)) | (show GO _ _ _ _ _ (⟨_, some _, _⟩ :: _) _; first | refine go_in (hk := ?_) | refine go_out (hk := ?_) | refine go_void (hk := ?_)) | (show GK _ _ _ _ (blockK _ _ _); refine gk_past rfl ?_) | (show GC _ _ _ _ _ (.cond _ _ _) _; first | refine gc_yes (h1 := ?_) | refine gc_no (h1 := ?_))))
  refine gc_cond rfl (fun h => ?_) (fun h => ?_)
  · (repeat (first | with_reducible (first | refine go_nil ?_ | refine gk_seq ?_ | refine gc_seq ?_ | refine gc_reg ?_ | refine gc_skip ?_ | refine gk_block ?_ | refine gc_block ?_ | refine gc_exit ?_ | refine gc_ret ?_ | refine gk_seqret ?_ | refine gk_seqexit ?_ | refine gk_blockret ?_ | refine gk_out ?_ | refine gk_loopret ?_ | refine gk_loopexit ?_) | (show GO _ _ _ _ _ (⟨some _, none, _⟩ :: _) _; first | refine go_op (hk := ?_) | (refine go_nw (hk := ?_); intro u; try simp only [List.length_cons, List.length_nil, List.nil_append, Nat.zero_add]) | (refine go_np (hk := ?_); intro id)) | (show GO _ _ _ _ _ (⟨none, none, _⟩ :: _) _; refine go_st (hk := ?_)) | (show GO _ _ _ _ _ (⟨_, some _, _⟩ :: _) _; first | refine go_in (hk := ?_) | refine go_out (hk := ?_) | refine go_void (hk := ?_)) | (show GK _ _ _ _ (blockK _ _ _); refine gk_past rfl ?_) | (show GC _ _ _ _ _ (.cond _ _ _) _; first | refine gc_yes (h1 := ?_) | refine gc_no (h1 := ?_))))
    refine go_step (stp_slb (l := 0) (h := 2000) rfl Sel.head (.inl ⟨rfl, rfl⟩) (.inr ⟨_, rfl, rfl⟩) ⟨by omega, by omega⟩) rfl (fun u S' hu => ?_)
    obtain ⟨hub, rfl⟩ := hu
    have e : ((bytesL bs).drop (0 * 1)).take ((2000 - 0) * 1) = bytesL (bs.take 2000) := by simp [bytesL, List.map_take]
    have e2 : 2000 - 0 = (bs.take 2000).length := by simp; omega
    have e3 : (bs.take 2000).length ≤ 2000 := by omega
    rw [e, e2]
    (repeat (first | with_reducible (first | refine go_nil ?_ | refine gk_seq ?_ | refine gc_seq ?_ | refine gc_reg ?_ | refine gc_skip ?_ | refine gk_block ?_ | refine gc_block ?_ | refine gc_exit ?_ | refine gc_ret ?_ | refine gk_seqret ?_ | refine gk_seqexit ?_ | refine gk_blockret ?_ | refine gk_out ?_ | refine gk_loopret ?_ | refine gk_loopexit ?_) | (show GO _ _ _ _ _ (⟨some _, none, _⟩ :: _) _; first | refine go_op (hk := ?_) | (refine go_nw (hk := ?_); intro u; try simp only [List.length_cons, List.length_nil, List.nil_append, Nat.zero_add]) | (refine go_np (hk := ?_); intro id)) | (show GO _ _ _ _ _ (⟨none, none, _⟩ :: _) _; refine go_st (hk := ?_)) | (show GO _ _ _ _ _ (⟨_, some _, _⟩ :: _) _; first | refine go_in (hk := ?_) | refine go_out (hk := ?_) | refine go_void (hk := ?_)) | (show GK _ _ _ _ (blockK _ _ _); refine gk_past rfl ?_) | (show GC _ _ _ _ _ (.cond _ _ _) _; first | refine gc_yes (h1 := ?_) | refine gc_no (h1 := ?_))))
    refine go_know (fun m H h => (h.valsA (v := u) (by exact Has.auto)).sl) (fun hsl => ?_)
    obtain ⟨hc1, hc2⟩ := slice_cells hsl
    refine go_is rfl (stp_bld (l := [(0, 1, u)]) (cs := [u, .int .i64 0]) rfl (by simp [fillL, hc1, hc2])) ?_
    refine go_newp rfl (stp_box (cs := [u, .int .i64 0]) rfl (by rw [AV.cells]) (by simp only [List.all_cons, List.all_nil, hc2]; rfl)) (fun id => ?_)
    (repeat (first | with_reducible (first | refine go_nil ?_ | refine gk_seq ?_ | refine gc_seq ?_ | refine gc_reg ?_ | refine gc_skip ?_ | refine gk_block ?_ | refine gc_block ?_ | refine gc_exit ?_ | refine gc_ret ?_ | refine gk_seqret ?_ | refine gk_seqexit ?_ | refine gk_blockret ?_ | refine gk_out ?_ | refine gk_loopret ?_ | refine gk_loopexit ?_) | (show GO _ _ _ _ _ (⟨some _, none, _⟩ :: _) _; first | refine go_op (hk := ?_) | (refine go_nw (hk := ?_); intro u; try simp only [List.length_cons, List.length_nil, List.nil_append, Nat.zero_add]) | (refine go_np (hk := ?_); intro id)) | (show GO _ _ _ _ _ (⟨none, none, _⟩ :: _) _; refine go_st (hk := ?_)) | (show GO _ _ _ _ _ (⟨_, some _, _⟩ :: _) _; first | refine go_in (hk := ?_) | refine go_out (hk := ?_) | refine go_void (hk := ?_)) | (show GK _ _ _ _ (blockK _ _ _); refine gk_past rfl ?_) | (show GC _ _ _ _ _ (.cond _ _ _) _; first | refine gc_yes (h1 := ?_) | refine gc_no (h1 := ?_))))
    refine gk_ret rfl fun H' hH => ⟨⟨id, u, bs.take 2000⟩, rfl, ⟨e3, fun i => ?_⟩, hub, hH.sub (by exact Sub.auto)⟩
    have := hb i
    simp only [nth, List.getD_eq_getElem?_getD, List.getElem?_take] at this ⊢
    split
    · exact this
    · simp
  · (repeat (first | with_reducible (first | refine go_nil ?_ | refine gk_seq ?_ | refine gc_seq ?_ | refine gc_reg ?_ | refine gc_skip ?_ | refine gk_block ?_ | refine gc_block ?_ | refine gc_exit ?_ | refine gc_ret ?_ | refine gk_seqret ?_ | refine gk_seqexit ?_ | refine gk_blockret ?_ | refine gk_out ?_ | refine gk_loopret ?_ | refine gk_loopexit ?_) | (show GO _ _ _ _ _ (⟨some _, none, _⟩ :: _) _; first | refine go_op (hk := ?_) | (refine go_nw (hk := ?_); intro u; try simp only [List.length_cons, List.length_nil, List.nil_append, Nat.zero_add]) | (refine go_np (hk := ?_); intro id)) | (show GO _ _ _ _ _ (⟨none, none, _⟩ :: _) _; refine go_st (hk := ?_)) | (show GO _ _ _ _ _ (⟨_, some _, _⟩ :: _) _; first | refine go_in (hk := ?_) | refine go_out (hk := ?_) | refine go_void (hk := ?_)) | (show GK _ _ _ _ (blockK _ _ _); refine gk_past rfl ?_) | (show GC _ _ _ _ _ (.cond _ _ _) _; first | refine gc_yes (h1 := ?_) | refine gc_no (h1 := ?_))))
    refine go_know (fun m H h => (h.valsA (v := cv) (by exact Has.auto)).sl) (fun hsl => ?_)
    obtain ⟨hc1, hc2⟩ := slice_cells hsl
    refine go_is rfl (stp_bld (l := [(0, 1, cv)]) (cs := [cv, .int .i64 0]) rfl (by simp [fillL, hc1, hc2])) ?_
    refine go_newp rfl (stp_box (cs := [cv, .int .i64 0]) rfl (by rw [AV.cells]) (by simp only [List.all_cons, List.all_nil, hc2]; rfl)) (fun id => ?_)
    (repeat (first | with_reducible (first | refine go_nil ?_ | refine gk_seq ?_ | refine gc_seq ?_ | refine gc_reg ?_ | refine gc_skip ?_ | refine gk_block ?_ | refine gc_block ?_ | refine gc_exit ?_ | refine gc_ret ?_ | refine gk_seqret ?_ | refine gk_seqexit ?_ | refine gk_blockret ?_ | refine gk_out ?_ | refine gk_loopret ?_ | refine gk_loopexit ?_) | (show GO _ _ _ _ _ (⟨some _, none, _⟩ :: _) _; first | refine go_op (hk := ?_) | (refine go_nw (hk := ?_); intro u; try simp only [List.length_cons, List.length_nil, List.nil_append, Nat.zero_add]) | (refine go_np (hk := ?_); intro id)) | (show GO _ _ _ _ _ (⟨none, none, _⟩ :: _) _; refine go_st (hk := ?_)) | (show GO _ _ _ _ _ (⟨_, some _, _⟩ :: _) _; first | refine go_in (hk := ?_) | refine go_out (hk := ?_) | refine go_void (hk := ?_)) | (show GK _ _ _ _ (blockK _ _ _); refine gk_past rfl ?_) | (show GC _ _ _ _ _ (.cond _ _ _) _; first | refine gc_yes (h1 := ?_) | refine gc_no (h1 := ?_))))
    exact gk_ret rfl fun H' hH => ⟨⟨id, cv, bs⟩, rfl, ⟨by show bs.length ≤ 2000; omega, hb⟩, rfl, hH.sub (by exact Sub.auto)⟩

def Bd (b : Int) (xs : List Int) : Prop := ∀ x ∈ xs, -b ≤ x ∧ x ≤ b

theorem Bd.nth {b : Int} {xs : List Int} (h : Bd b xs) (hb : 0 ≤ b) (i : Nat) : -b ≤ nth xs i ∧ nth xs i ≤ b := by
  by_cases hi : i < xs.length
  · exact h _ (nth_mem hi)
  · have : Rx.nth xs i = 0 := by simp [Rx.nth, Nat.le_of_not_lt hi]
    omega

theorem Bd.app {b : Int} {xs ys : List Int} (h : Bd b xs) (k : Bd b ys) : Bd b (xs ++ ys) := by
  intro x hx
  rcases List.mem_append.1 hx with hx | hx
  · exact h x hx
  · exact k x hx

theorem Bd.one {b x : Int} (h : -b ≤ x ∧ x ≤ b) : Bd b [x] := by
  intro y hy; simp only [List.mem_singleton] at hy; subst hy; exact h

structure D2 where
  u : AV
  v : AV
  xs : List Int
  ys : List Int
  q : Nat

def sumL : List Int → Int
  | [] => 0
  | x :: l => x + sumL l

def sumI (xs : List Int) : Nat → Int
  | 0 => 0
  | i + 1 => sumI xs i + nth xs i

theorem sumI_le {xs : List Int} {b : Int} (h : Bd b xs) (hb : 0 ≤ b) : ∀ i, -(b * i) ≤ sumI xs i ∧ sumI xs i ≤ b * i
  | 0 => by simp [sumI]
  | i + 1 => by
    have ih := sumI_le h hb i
    have hn := h.nth hb i
    have e : b * ((i + 1 : Nat) : Int) = b * i + b := by rw [Int.natCast_add, Int.mul_add]; simp
    rw [sumI, e]; omega

theorem sumI_cons (x : Int) (xs : List Int) : ∀ i, sumI (x :: xs) (i + 1) = x + sumI xs i
  | 0 => by simp [sumI, nth]
  | i + 1 => by
    rw [sumI, sumI_cons x xs i, sumI]
    have e1 : nth (x :: xs) (i + 1) = nth xs i := by simp [nth]
    rw [e1]; omega

theorem sumI_all : ∀ xs : List Int, sumI xs xs.length = sumL xs
  | [] => rfl
  | x :: xs => by rw [List.length_cons, sumI_cons, sumI_all, sumL]

theorem sumL_le {xs : List Int} {b : Int} (h : Bd b xs) (hb : 0 ≤ b) : -(b * xs.length) ≤ sumL xs ∧ sumL xs ≤ b * xs.length := by
  rw [← sumI_all]; exact sumI_le h hb _

theorem Data.bd {xs : List Int} (h : Data xs) : Bd 200 xs := by
  intro x hx
  obtain ⟨i, hi, rfl⟩ := List.getElem_of_mem hx
  have := h.2 i hi
  rw [nth_of hi] at this
  exact this

noncomputable instance (b : Int) (xs : List Int) : Decidable (Bd b xs) := Classical.propDecidable _

/-- the bits of the numbers above 0 -/
def Bits (l : List Int) (p : Nat) : Prop := ∀ j, p.testBit j = decide (j < l.length ∧ 0 < nth l j)

theorem nth_app_lt {l : List Int} {x : Int} {j : Nat} (h : j < l.length) : nth (l ++ [x]) j = nth l j := by
  simp [nth, List.getElem?_append_left h]

theorem nth_app_eq {l : List Int} {x : Int} : nth (l ++ [x]) l.length = x := by simp [nth]

theorem Bits.no {l : List Int} {p : Nat} (h : Bits l p) {x : Int} (hx : ¬ 0 < x) : Bits (l ++ [x]) p := by
  intro j
  rw [h j]
  rcases Nat.lt_trichotomy j l.length with hj | rfl | hj
  · rw [nth_app_lt hj]
    have : j < (l ++ [x]).length := by simp; omega
    simp [hj]; omega
  · rw [nth_app_eq]; simp [hx]
  · have h2 : ¬ j < l.length := by omega
    simp [h2]; omega

theorem bytes_of {bs : List Int} (h : ∀ x ∈ bs, (Lit.int .u8 x).wf = true) (i : Nat) : 0 ≤ nth bs i ∧ nth bs i ≤ 255 := by
  by_cases hi : i < bs.length
  · have := h _ (nth_mem hi)
    simp [Lit.wf, IntKind.min, IntKind.max, IntKind.signed, IntKind.bits] at this
    omega
  · have : nth bs i = 0 := by simp [nth, Nat.le_of_not_lt hi]
    omega

/-- 2 for what is greater, 1 for the same -/
def vs (x y : Int) : Int := if y < x then 2 else if y = x then 1 else 0

theorem Data.app {xs ys : List Int} (h : Samples xs ys) : Data (xs ++ ys) := by
  obtain ⟨⟨h1, h2⟩, h3, h4, h5⟩ := h
  refine ⟨by simp; omega, fun i hi => ?_⟩
  by_cases h6 : i < xs.length
  · have : nth (xs ++ ys) i = nth xs i := by simp [nth, List.getElem?_append_left h6]
    rw [this]; exact h1.2 i h6
  · have : nth (xs ++ ys) i = nth ys (i - xs.length) := by simp [nth, List.getElem?_append_right (by omega : xs.length ≤ i)]
    rw [this]; exact h2.2 _ (by simp at hi; omega)

def Up (l : List Int) : Prop := l.Pairwise (· ≤ ·)

theorem Up.le {l : List Int} (h : Up l) {i j : Nat} (hij : i ≤ j) (hj : j < l.length) : nth l i ≤ nth l j := by
  rcases Nat.lt_or_ge i j with h1 | h1
  · rw [nth_of (by omega), nth_of hj]
    exact List.pairwise_iff_getElem.1 h i j (by omega) hj h1
  · have : i = j := by omega
    subst this; exact Int.le_refl _

theorem isNaN_ok {H : Heap} {n : Int} : ACalls Try.prog fn_cmp_isNaN_int [.int .i64 n] H fun r H' => r = .bool false ∧ H' = H := by
  refine ACalls.val ?_ rfl
  refine code_cmp_isNaN_int.go [] trivial (by simp) ?_
  unfold mc_cmp_isNaN_int
  (repeat (first | with_reducible (first | refine go_nil ?_ | refine gk_seq ?_ | refine gc_seq ?_ | refine gc_reg ?_ | refine gc_skip ?_ | refine gk_block ?_ | refine gc_block ?_ | refine gc_exit ?_ | refine gc_ret ?_ | refine gk_seqret ?_ | refine gk_seqexit ?_ | refine gk_blockret ?_ | refine gk_out ?_ | refine gk_loopret ?_ | refine gk_loopexit ?_) | (show GO _ _ _ _ _ (⟨some _, none, _⟩ :: _) _; first | refine go_op (hk := ?_) | (refine go_nw (hk := ?_); intro u; try simp only [List.length_cons, List.length_nil, List.nil_append, Nat.zero_add]) | (refine go_np (hk := ?_); intro id)) | (show GO _ _ _ _ _ (⟨none, none, _⟩ :: _) _; refine go_st (hk := ?_)) | (show GO _ _ _ _ _ (⟨_, some _, _⟩ :: _) _; first | refine go_in (hk := ?_) | refine go_out (hk := ?_) | refine go_void (hk := ?_)) | (show GK _ _ _ _ (blockK _ _ _); refine gk_past rfl ?_) | (show GC _ _ _ _ _ (.cond _ _ _) _; first | refine gc_yes (h1 := ?_) | refine gc_no (h1 := ?_))))
  exact gk_ret rfl fun H' hH => ⟨by simp [tupleOf], hH.leE⟩

theorem compare_ok {H : Heap} {m n : Int} : ACalls Try.prog fn_cmp_Compare_int [.int .i64 m, .int .i64 n] H fun r H' => r = .int .i64 (sgn (m - n)) ∧ H' = H := by
  refine ACalls.val ?_ rfl
  refine code_cmp_Compare_int.go [] trivial (by simp) ?_
  unfold mc_cmp_Compare_int
  (repeat (first | with_reducible (first | refine go_nil ?_ | refine gk_seq ?_ | refine gc_seq ?_ | refine gc_reg ?_ | refine gc_skip ?_ | refine gk_block ?_ | refine gc_block ?_ | refine gc_exit ?_ | refine gc_ret ?_ | refine gk_seqret ?_ | refine gk_seqexit ?_ | refine gk_blockret ?_ | refine gk_out ?_ | refine gk_loopret ?_ | refine gk_loopexit ?_) | (show GO _ _ _ _ _ (⟨some _, none, .call _ _⟩ :: _) _; first | (refine go_callp rfl code_cmp_isNaN_int.callable (fun H hH => isNaN_ok) ?_)) | (show GO _ _ _ _ _ (⟨some _, none, _⟩ :: _) _; first | refine go_op (hk := ?_) | (refine go_nw (hk := ?_); intro u; try simp only [List.length_cons, List.length_nil, List.nil_append, Nat.zero_add]) | (refine go_np (hk := ?_); intro id)) | (show GO _ _ _ _ _ (⟨none, none, _⟩ :: _) _; refine go_st (hk := ?_)) | (show GO _ _ _ _ _ (⟨_, some _, _⟩ :: _) _; first | refine go_in (hk := ?_) | refine go_out (hk := ?_) | refine go_void (hk := ?_)) | (show GK _ _ _ _ (blockK _ _ _); refine gk_past rfl ?_) | (show GC _ _ _ _ _ (.cond _ _ _) _; first | refine gc_yes (h1 := ?_) | refine gc_no (h1 := ?_))))
  refine gc_cond rfl (fun h1 => ?_) (fun h1 => ?_)
  · (repeat (first | with_reducible (first | refine go_nil ?_ | refine gk_seq ?_ | refine gc_seq ?_ | refine gc_reg ?_ | refine gc_skip ?_ | refine gk_block ?_ | refine gc_block ?_ | refine gc_exit ?_ | refine gc_ret ?_ | refine gk_seqret ?_ | refine gk_seqexit ?_ | refine gk_blockret ?_ | refine gk_out ?_ | refine gk_loopret ?_ | refine gk_loopexit ?_) | (show GO _ _ _ _ _ (⟨some _, none, .call _ _⟩ :: _) _; first | (refine go_callp rfl code_cmp_isNaN_int.callable (fun H hH => isNaN_ok) ?_)) | (show GO _ _ _ _ _ (⟨some _, none, _⟩ :: _) _; first | refine go_op (hk := ?_) | (refine go_nw (hk := ?_); intro u; try simp only [List.length_cons, List.length_nil, List.nil_append, Nat.zero_add]) | (refine go_np (hk := ?_); intro id)) | (show GO _ _ _ _ _ (⟨none, none, _⟩ :: _) _; refine go_st (hk := ?_)) | (show GO _ _ _ _ _ (⟨_, some _, _⟩ :: _) _; first | refine go_in (hk := ?_) | refine go_out (hk := ?_) | refine go_void (hk := ?_)) | (show GK _ _ _ _ (blockK _ _ _); refine gk_past rfl ?_) | (show GC _ _ _ _ _ (.cond _ _ _) _; first | refine gc_yes (h1 := ?_) | refine gc_no (h1 := ?_))))
    refine gk_ret rfl fun H' hH => ⟨?_, hH.leE⟩
    unfold sgn; rw [if_neg (by omega), if_pos (by omega)]; rfl
  (repeat (first | with_reducible (first | refine go_nil ?_ | refine gk_seq ?_ | refine gc_seq ?_ | refine gc_reg ?_ | refine gc_skip ?_ | refine gk_block ?_ | refine gc_block ?_ | refine gc_exit ?_ | refine gc_ret ?_ | refine gk_seqret ?_ | refine gk_seqexit ?_ | refine gk_blockret ?_ | refine gk_out ?_ | refine gk_loopret ?_ | refine gk_loopexit ?_) | (show GO _ _ _ _ _ (⟨some _, none, .call _ _⟩ :: _) _; first | (refine go_callp rfl code_cmp_isNaN_int.callable (fun H hH => isNaN_ok) ?_)) | (show GO _ _ _ _ _ (⟨some _, none, _⟩ :: _) _; first | refine go_op (hk := ?_) | (refine go_nw (hk := ?_); intro u; try simp only [List.length_cons, List.length_nil, List.nil_append, Nat.zero_add]) | (refine go_np (hk := ?_); intro id)) | (show GO _ _ _ _ _ (⟨none, none, _⟩ :: _) _; refine go_st (hk := ?_)) | (show GO _ _ _ _ _ (⟨_, some _, _⟩ :: _) _; first | refine go_in (hk := ?_) | refine go_out (hk := ?_) | refine go_void (hk := ?_)) | (show GK _ _ _ _ (blockK _ _ _); refine gk_past rfl ?_) | (show GC _ _ _ _ _ (.cond _ _ _) _; first | refine gc_yes (h1 := ?_) | refine gc_no (h1 := ?_))))
  refine gc_cond rfl (fun h2 => ?_) (fun h2 => ?_)
  · (repeat (first | with_reducible (first | refine go_nil ?_ | refine gk_seq ?_ | refine gc_seq ?_ | refine gc_reg ?_ | refine gc_skip ?_ | refine gk_block ?_ | refine gc_block ?_ | refine gc_exit ?_ | refine gc_ret ?_ | refine gk_seqret ?_ | refine gk_seqexit ?_ | refine gk_blockret ?_ | refine gk_out ?_ | refine gk_loopret ?_ | refine gk_loopexit ?_) | (show GO _ _ _ _ _ (⟨some _, none, .call _ _⟩ :: _) _; first | (refine go_callp rfl code_cmp_isNaN_int.callable (fun H hH => isNaN_ok) ?_)) | (show GO _ _ _ _ _ (⟨some _, none, _⟩ :: _) _; first | refine go_op (hk := ?_) | (refine go_nw (hk := ?_); intro u; try simp only [List.length_cons, List.length_nil, List.nil_append, Nat.zero_add]) | (refine go_np (hk := ?_); intro id)) | (show GO _ _ _ _ _ (⟨none, none, _⟩ :: _) _; refine go_st (hk := ?_)) | (show GO _ _ _ _ _ (⟨_, some _, _⟩ :: _) _; first | refine go_in (hk := ?_) | refine go_out (hk := ?_) | refine go_void (hk := ?_)) | (show GK _ _ _ _ (blockK _ _ _); refine gk_past rfl ?_) | (show GC _ _ _ _ _ (.cond _ _ _) _; first | refine gc_yes (h1 := ?_) | refine gc_no (h1 := ?_))))
    refine gk_ret rfl fun H' hH => ⟨?_, hH.leE⟩
    unfold sgn; rw [if_pos (by omega)]; rfl
  (repeat (first | with_reducible (first | refine go_nil ?_ | refine gk_seq ?_ | refine gc_seq ?_ | refine gc_reg ?_ | refine gc_skip ?_ | refine gk_block ?_ | refine gc_block ?_ | refine gc_exit ?_ | refine gc_ret ?_ | refine gk_seqret ?_ | refine gk_seqexit ?_ | refine gk_blockret ?_ | refine gk_out ?_ | refine gk_loopret ?_ | refine gk_loopexit ?_) | (show GO _ _ _ _ _ (⟨some _, none, .call _ _⟩ :: _) _; first | (refine go_callp rfl code_cmp_isNaN_int.callable (fun H hH => isNaN_ok) ?_)) | (show GO _ _ _ _ _ (⟨some _, none, _⟩ :: _) _; first | refine go_op (hk := ?_) | (refine go_nw (hk := ?_); intro u; try simp only [List.length_cons, List.length_nil, List.nil_append, Nat.zero_add]) | (refine go_np (hk := ?_); intro id)) | (show GO _ _ _ _ _ (⟨none, none, _⟩ :: _) _; refine go_st (hk := ?_)) | (show GO _ _ _ _ _ (⟨_, some _, _⟩ :: _) _; first | refine go_in (hk := ?_) | refine go_out (hk := ?_) | refine go_void (hk := ?_)) | (show GK _ _ _ _ (blockK _ _ _); refine gk_past rfl ?_) | (show GC _ _ _ _ _ (.cond _ _ _) _; first | refine gc_yes (h1 := ?_) | refine gc_no (h1 := ?_))))
  refine gk_ret rfl fun H' hH => ⟨?_, hH.leE⟩
  unfold sgn; rw [if_neg (by omega), if_neg (by omega)]; rfl

def qtCmp (f : FuncId) (args : List AV) : Option AV :=
  if f = fn_cmp_Compare_int then match args with
    | [.int .i64 m, .int .i64 n] => some (.int .i64 (sgn (m - n)))
    | _ => none
  else none

theorem qtCmp_is {m n : Int} : qtCmp fn_cmp_Compare_int [.int .i64 m, .int .i64 n] = some (.int .i64 (sgn (m - n))) := rfl

structure F4 where
  a : Int
  b : Int
  c : Int
  d : Int

abbrev F4.v (g : F4) : AV := .agg [.int .i64 g.a, .int .i64 g.b, .int .i64 g.c, .int .i64 g.d]

abbrev F4.ok (g : F4) : Prop := (0 ≤ g.a ∧ g.a ≤ 5) ∧ (-1 ≤ g.b ∧ (g.b ≤ 5 ∨ g.b = 9)) ∧ (0 ≤ g.c ∧ g.c ≤ 5) ∧ (0 ≤ g.d ∧ g.d ≤ 8)

theorem sub_refl : ∀ S : Sig, Sub S S
  | [] => .nil
  | c :: S => .cons .head (sub_refl S)

theorem slice_cells {H : Heap} {a : AV} {xs : List Int} (h : Ints H a xs) : a.cells = [a] ∧ a.one = true := by
  have := h.sl
  cases a <;> simp [AV.isSlice] at this <;> exact ⟨rfl, rfl⟩

/-- a slice is put into a cell -/
theorem stp_stv {A : Heap} {X : List Nat} {E : List (Nat × AV)} {S S0 : Sig} {p x : MX} {u c : AV} {id es k n m : Nat} {cs : List AV} (hp : evE E p = some (.ptr id 0)) (hx : evE E x = some u) (hh : Has S u es n cs) (hs : Sel S ⟨.cell, .ptr id 0, k, m, [c]⟩ S0) :
    Stp A X E S (.st p x 1) (Is .any (⟨.cell, .ptr id 0, k, m, [u]⟩ :: S0)) := by
  refine ⟨fun τ H m nid hE hS hm => ?_⟩
  have hv := (hS.valsA hh).sl
  have hc : u.cells = [u] ∧ u.one = true := by cases u <;> simp [AV.isSlice] at hv <;> exact ⟨rfl, rfl⟩
  have h := stp_stc (A := A) (X := X) (E := E) (S := S) (w := u) (o := 0) (j := 1) hp hx hs (by rw [hc.1]; rfl) (by rw [hc.1]; simp [hc.2]) (by simp)
  rw [hc.1] at h
  exact h.stp τ H m nid hE hS hm

theorem Samples.swap {xs ys : List Int} (h : Samples xs ys) : Samples ys xs := ⟨⟨h.1.2, h.1.1⟩, by have := h.2; omega, by have := h.2; omega, by have := h.2; omega⟩

theorem sub_drop {c : Ch} {S S' : Sig} (h : Sub S S') : Sub (c :: S) S' := by
  induction h generalizing c with
  | nil => exact .nil
  | cons h h' ih => exact .cons (.tail h) ih

def SumsOk (xs : List Int) : Prop := (∀ i, i < xs.length → 0 ≤ nth xs i ∧ nth xs i ≤ 6) ∧ 1 ≤ xs.length ∧ xs.length ≤ 3

noncomputable instance (xs : List Int) : Decidable (SumsOk xs) := Classical.propDecidable _

abbrev TabOk (xs ys : List Int) : Prop := (SumsOk xs ∧ SumsOk ys) ∧ sumL xs = sumL ys

def B4 (xs : List Int) : Prop := ∀ x ∈ xs, 0 ≤ x ∧ x ≤ 4

theorem B4.app {xs ys : List Int} (h : B4 xs) (k : B4 ys) : B4 (xs ++ ys) := by
  intro x hx
  rcases List.mem_append.1 hx with hx | hx
  · exact h x hx
  · exact k x hx

theorem B4.bd {xs : List Int} (h : B4 xs) : Bd 1000000 xs := fun x hx => by have := h x hx; omega

theorem Bd.set {b y : Int} {xs : List Int} {i : Nat} (h : Bd b xs) (hy : -b ≤ y ∧ y ≤ b) : Bd b (xs.set i y) := by
  intro x hx
  rcases List.mem_or_eq_of_mem_set hx with hx | rfl
  · exact h x hx
  · exact hy

theorem TabOk.swap {xs ys : List Int} (h : TabOk xs ys) : TabOk ys xs := ⟨⟨h.1.2, h.1.1⟩, h.2.symm⟩

structure P2 where
  a : Int
  b : Int

abbrev P2.v (g : P2) : AV := .tuple [.int .i64 g.a, .int .i64 g.b]

abbrev P2.lev (g : P2) : Prop := (0 ≤ g.a ∧ g.a ≤ 102) ∧ 0 ≤ g.b ∧ g.b ≤ 101

structure N4 where
  n : Int
  k : Int
  u : Int
  v : Int

abbrev N4.v' (g : N4) : AV := .tuple [.int .i64 g.n, .int .i64 g.k, .int .i64 g.u, .int .i64 g.v]

abbrev N4.ok (g : N4) : Prop := (0 ≤ g.n ∧ g.n ≤ 11) ∧ (-1 ≤ g.k ∧ g.k ≤ 11) ∧ (0 ≤ g.u ∧ g.u ≤ 14) ∧ (0 ≤ g.v ∧ g.v ≤ 13)

structure N3 where
  n : Int
  a : Int
  b : Int

abbrev N3.v (g : N3) : AV := .tuple [.int .i64 g.n, .int .i64 g.a, .int .i64 g.b]

abbrev N3.ok (g : N3) : Prop := (0 ≤ g.n ∧ g.n ≤ 11) ∧ (0 ≤ g.a ∧ g.a ≤ 102) ∧ 0 ≤ g.b ∧ g.b ≤ 101

structure N5 where
  n : Int
  k : Int
  v : Int
  a : Int
  b : Int

abbrev N5.v' (g : N5) : AV := .tuple [.int .i64 g.n, .int .i64 g.k, .int .i64 g.v, .int .i64 g.a, .int .i64 g.b]

abbrev N5.ok (g : N5) : Prop := (0 ≤ g.n ∧ g.n ≤ 11) ∧ (-1 ≤ g.k ∧ g.k ≤ 12) ∧ (0 ≤ g.v ∧ g.v ≤ 12) ∧ (0 ≤ g.a ∧ g.a ≤ 102) ∧ 0 ≤ g.b ∧ g.b ≤ 101

def qtTab : List (FuncId × (List AV → Option AV)) → FuncId → List AV → Option AV
  | [], _, _ => none
  | (g, d) :: r, f, args => if f = g then d args else qtTab r f args

abbrev FamOk (P : Program) (H : Heap) (f : FuncId) (d : List AV → Option AV) : Prop := ∀ args v, d args = some v → Callable P f ∧ ACalls P f args H fun r H' => r = v ∧ H' = H

theorem qtTab_nil {P : Program} {H : Heap} : QtOk P (qtTab []) H := fun f args r h => by simp [qtTab] at h

theorem qtTab_cons {P : Program} {H : Heap} {g : FuncId} {d : List AV → Option AV} {r : List (FuncId × (List AV → Option AV))} (h : FamOk P H g d) (hr : QtOk P (qtTab r) H) : QtOk P (qtTab ((g, d) :: r)) H := by
  intro f args v hv
  simp only [qtTab] at hv
  split at hv
  · rename_i e; subst e; exact h args v hv
  · exact hr f args v hv

def tabZ (n : Nat) (f : Nat → Int) : List Int := (List.range n).map f

theorem tabZ_len (n : Nat) (f : Nat → Int) : (tabZ n f).length = n := by simp [tabZ]

structure GK5 where
  u : AV
  xs : List Int
  lev : Int
  kd : List UInt8

abbrev GK5.v (g : GK5) : AV := .tuple [g.u, .int .i64 g.lev, .str g.kd]

/-- a slice is put into a new cell -/
theorem stp_boxv {A : Heap} {X : List Nat} {E : List (Nat × AV)} {S : Sig} {x : MX} {u : AV} {es n : Nat} {cs : List AV} (hx : evE E x = some u) (hh : Has S u es n cs) : Stp A X E S (.box x) (NewP fun id => ⟨.cell, .ptr id 0, 1, 1, [u]⟩ :: S) := by
  refine ⟨fun τ H m nid hE hS hm => ?_⟩
  have hv := (hS.valsA hh).sl
  have hc : u.cells = [u] ∧ u.one = true := by cases u <;> simp [AV.isSlice] at hv <;> exact ⟨rfl, rfl⟩
  exact (stp_box (A := A) (X := X) (E := E) (S := S) (cs := [u]) hx hc.1 (by simp [hc.2])).stp τ H m nid hE hS hm

def keyZ (xs : List Int) (i : Int) : Int := nth xs i.toNat

def bef (K : Int → Int) (a b : Int) : Prop := K a < K b ∨ (K a = K b ∧ a < b)

def idxL (n : Nat) : List Int := tabZ n fun i => (i : Int)

theorem idxL_len (n : Nat) : (idxL n).length = n := tabZ_len _ _

def BySize (xs : List Int) (n : Nat) (ys : List Int) : Prop := ys.Perm (idxL n) ∧ ys.Pairwise (bef (keyZ xs))

theorem BySize.len {xs : List Int} {n : Nat} {ys : List Int} (h : BySize xs n ys) : ys.length = n := by rw [h.1.length_eq, idxL_len]

inductive Way | all | down | up | share

def Way.val : Way → Int → Int → Int → Int
  | .all, x, n, _ => x * n
  | .down, x, n, p => x * (n - p)
  | .up, x, n, p => x * (n - p)
  | .share, x, n, p => (x * n + p) / (p + 1)

def DrOk (p : List Int × List Int) (B : Nat) : Prop := p.2.length = p.1.length ∧ p.1.length ≤ B ∧ ∀ x ∈ p.2, 0 ≤ x ∧ x ≤ (B : Int)

theorem DrOk.mono {p : List Int × List Int} {B C : Nat} (h : DrOk p B) (hc : B ≤ C) : DrOk p C := ⟨h.1, by have := h.2.1; omega, fun x hx => by have := h.2.2 x hx; omega⟩

def FD (q : Rat) (D B : Int) : Prop := 0 < D ∧ ∃ k : Int, q * (D : Rat) = (k : Rat) ∧ -B ≤ k ∧ k ≤ B

theorem rat_inj {a b : Int} (h : (a : Rat) = (b : Rat)) : a = b := by
  have := congrArg Rat.num h
  simpa using this

theorem rat_nd (q : Rat) : q * ((q.den : Int) : Rat) = (q.num : Rat) := by
  have h := Rat.num_divInt_den q
  rw [Rat.divInt_eq_div] at h
  have hd : ((q.den : Int) : Rat) ≠ 0 := by
    intro h0
    have := rat_inj (a := q.den) (b := 0) h0
    have := q.den_nz
    omega
  have h1 := Rat.div_mul_cancel (a := (q.num : Rat)) hd
  rw [h] at h1
  exact h1

theorem rat_ne {a : Int} (h : a ≠ 0) : (a : Rat) ≠ 0 := fun h0 => h (rat_inj h0)

theorem FD.eqn {q : Rat} {D k : Int} (h : q * (D : Rat) = (k : Rat)) : q.num * D = k * q.den := by
  have h2 := rat_nd q
  have : ((q.num * D : Int) : Rat) = ((k * (q.den : Int) : Int) : Rat) := by
    rw [Rat.intCast_mul, Rat.intCast_mul, ← h, ← h2]; grind
  exact rat_inj this

theorem den_pos (q : Rat) : 1 ≤ (q.den : Int) := by have := q.den_nz; omega

theorem FD.dvd {q : Rat} {D B : Int} (h : FD q D B) : ∃ m : Int, 0 < m ∧ D = q.den * m ∧ -B ≤ q.num * m ∧ q.num * m ≤ B := by
  obtain ⟨hD, k, h1, h2, h3⟩ := h
  have he := FD.eqn h1
  have hd := den_pos q
  have hdv : (q.den : Int) ∣ D := by
    have h4 : (q.den : Int) ∣ q.num * D := ⟨k, by rw [he, Int.mul_comm]⟩
    have h5 : q.den ∣ q.num.natAbs * D.natAbs := by
      have := Int.natAbs_dvd_natAbs.2 h4
      rwa [Int.natAbs_mul, Int.natAbs_natCast] at this
    have h6 : q.den ∣ D.natAbs := (Nat.Coprime.symm q.reduced).dvd_of_dvd_mul_left h5
    exact Int.ofNat_dvd_left.2 h6
  obtain ⟨m, hm⟩ := hdv
  have hm0 : 0 < m := by
    rcases Int.lt_or_le 0 m with h5 | h5
    · exact h5
    · have := Int.mul_nonpos_of_nonneg_of_nonpos (a := (q.den : Int)) (b := m) (by omega) h5
      omega
  refine ⟨m, hm0, hm, ?_⟩
  have : q.num * m = k := by
    rw [hm] at he
    have h6 : (q.den : Int) * (q.num * m) = q.den * k := by rw [← Int.mul_assoc, Int.mul_comm (q.den : Int) q.num, Int.mul_assoc, he, Int.mul_comm]
    exact Int.eq_of_mul_eq_mul_left (by omega) h6
  omega

theorem mul_le_self {a m B : Int} (hm : 0 < m) (h : -B ≤ a * m ∧ a * m ≤ B) : -B ≤ a ∧ a ≤ B := by
  rcases Int.lt_or_le a 0 with h0 | h0
  · have := Int.mul_le_mul_of_nonneg_left (a := 1) (b := m) (c := -a) (by omega) (by omega)
    simp only [Int.neg_mul] at this
    omega
  · have := Int.mul_le_mul_of_nonneg_left (a := 1) (b := m) (c := a) (by omega) h0
    omega

theorem FD.nd {q : Rat} {D B : Int} (h : FD q D B) : (-B ≤ q.num ∧ q.num ≤ B) ∧ 1 ≤ (q.den : Int) ∧ (q.den : Int) ≤ D := by
  obtain ⟨m, h1, h2, h3⟩ := h.dvd
  have hd := den_pos q
  refine ⟨mul_le_self h1 h3, hd, ?_⟩
  have := Int.mul_le_mul_of_nonneg_left (a := 1) (b := m) (c := (q.den : Int)) (by omega) (by omega)
  omega

theorem FD.add {a b : Rat} {D A B : Int} (h : FD a D A) (h' : FD b D B) : FD (a + b) D (A + B) := by
  obtain ⟨hD, k, h1, h2, h3⟩ := h
  obtain ⟨_, l, h4, h5, h6⟩ := h'
  exact ⟨hD, k + l, by rw [Rat.intCast_add, ← h1, ← h4]; grind, by omega, by omega⟩

theorem FD.neg {a : Rat} {D A : Int} (h : FD a D A) : FD (-a) D A := by
  obtain ⟨hD, k, h1, h2, h3⟩ := h
  exact ⟨hD, -k, by rw [Rat.intCast_neg, ← h1]; grind, by omega, by omega⟩

theorem FD.sub {a b : Rat} {D A B : Int} (h : FD a D A) (h' : FD b D B) : FD (a - b) D (A + B) := by
  have := h.add h'.neg
  rwa [← Rat.sub_eq_add_neg] at this

theorem absmul {k l A B : Int} (h2 : -A ≤ k) (h3 : k ≤ A) (h5 : -B ≤ l) (h6 : l ≤ B) : -(A * B) ≤ k * l ∧ k * l ≤ A * B := by
  have hk : k.natAbs ≤ A.natAbs := by omega
  have hl : l.natAbs ≤ B.natAbs := by omega
  have h := Nat.mul_le_mul hk hl
  rw [← Int.natAbs_mul, ← Int.natAbs_mul] at h
  have h0 : 0 ≤ A * B := Int.mul_nonneg (by omega) (by omega)
  omega

theorem FD.mul {a b : Rat} {D E A B : Int} (h : FD a D A) (h' : FD b E B) : FD (a * b) (D * E) (A * B) := by
  obtain ⟨hD, k, h1, h2, h3⟩ := h
  obtain ⟨hE, l, h4, h5, h6⟩ := h'
  have := absmul h2 h3 h5 h6
  exact ⟨Int.mul_pos hD hE, k * l, by rw [Rat.intCast_mul, Rat.intCast_mul, ← h1, ← h4]; grind, this.1, this.2⟩

theorem FD.lift {a : Rat} {D A m : Int} (h : FD a D A) (hm : 0 < m) : FD a (D * m) (A * m) := by
  obtain ⟨hD, k, h1, h2, h3⟩ := h
  have hA : 0 ≤ A := by omega
  have := absmul h2 h3 (l := m) (B := m) (by omega) (by omega)
  exact ⟨Int.mul_pos hD hm, k * m, by rw [Rat.intCast_mul, Rat.intCast_mul, ← h1]; grind, this.1, this.2⟩

theorem FD.int {n B : Int} (h : -B ≤ n ∧ n ≤ B) : FD (n : Rat) 1 B := ⟨by omega, n, by simp, h.1, h.2⟩

theorem FD.mono {a : Rat} {D A B : Int} (h : FD a D A) (hb : A ≤ B) : FD a D B := by
  obtain ⟨hD, k, h1, h2, h3⟩ := h
  exact ⟨hD, k, h1, by omega, by omega⟩

theorem FD.div {n d B : Int} (hd : 0 < d) (h : -B ≤ n ∧ n ≤ B) : FD ((n : Rat) / (d : Rat)) d B := ⟨hd, n, Rat.div_mul_cancel (rat_ne (by omega)), h.1, h.2⟩

theorem FD.divn {n d B : Int} (hd : d ≠ 0) (h : -B ≤ n ∧ n ≤ B) : FD ((n : Rat) / (d : Rat)) (max d (-d)) B := by
  rcases Int.lt_or_le 0 d with h0 | h0
  · rw [show max d (-d) = d by omega]; exact FD.div h0 h
  · rw [show max d (-d) = -d by omega]
    refine ⟨by omega, -n, ?_, by omega, by omega⟩
    have := Rat.div_mul_cancel (a := (n : Rat)) (rat_ne hd)
    rw [Rat.intCast_neg, Rat.intCast_neg]; grind

def absR (q : Rat) : Rat := if q < 0 then -q else q

theorem absR_num (q : Rat) : (absR q).num = max q.num (-q.num) ∧ (absR q).den = q.den := by
  unfold absR
  have h : q < 0 ↔ q.num < 0 := by
    rw [Rat.lt_iff]; simp
  split
  · rename_i h0
    have := h.1 h0
    rw [Rat.neg_num, Rat.neg_den]
    exact ⟨by omega, rfl⟩
  · rename_i h0
    have : ¬ q.num < 0 := fun h1 => h0 (h.2 h1)
    exact ⟨by omega, rfl⟩

theorem FD.abs {a : Rat} {D A : Int} (h : FD a D A) : FD (absR a) D A := by
  unfold absR; split
  · exact h.neg
  · exact h

theorem FD.to {a : Rat} {D A D' : Int} (h : FD a D A) (hd : D = D') : FD a D' A := hd ▸ h

theorem lmax {α : Type} (f : α → Rat) (P : α → Prop) : ∀ l : List α, (∃ a ∈ l, P a) → ∃ a ∈ l, P a ∧ ∀ b ∈ l, P b → f b ≤ f a
  | [], h => by obtain ⟨a, h, _⟩ := h; cases h
  | x :: l, h => by
    classical
    by_cases h1 : ∃ a ∈ l, P a
    · obtain ⟨a, h2, h3, h4⟩ := lmax f P l h1
      by_cases h5 : P x ∧ f a < f x
      · refine ⟨x, List.mem_cons_self .., h5.1, fun b hb hP => ?_⟩
        rcases List.mem_cons.1 hb with hb | hb
        · rw [hb]; exact Rat.le_refl
        · exact Rat.le_trans (h4 b hb hP) (Rat.le_of_lt h5.2)
      · refine ⟨a, List.mem_cons_of_mem _ h2, h3, fun b hb hP => ?_⟩
        rcases List.mem_cons.1 hb with hb | hb
        · subst hb
          exact Rat.not_lt.1 fun h6 => h5 ⟨hP, h6⟩
        · exact h4 b hb hP
    · obtain ⟨a, h2, h3⟩ := h
      rcases List.mem_cons.1 h2 with h2 | h2
      · subst h2
        refine ⟨a, List.mem_cons_self .., h3, fun b hb hP => ?_⟩
        rcases List.mem_cons.1 hb with hb | hb
        · rw [hb]; exact Rat.le_refl
        · exact absurd ⟨b, hb, hP⟩ h1
      · exact absurd ⟨a, h2, h3⟩ h1

theorem imax (f : Nat → Rat) (P : Nat → Prop) {n : Nat} (h : ∃ a, a < n ∧ P a) : ∃ a, a < n ∧ P a ∧ ∀ b, b < n → P b → f b ≤ f a := by
  obtain ⟨a, h1, h2⟩ := h
  obtain ⟨a, h3, h4, h5⟩ := lmax f P (List.range n) ⟨a, List.mem_range.2 h1, h2⟩
  exact ⟨a, List.mem_range.1 h3, h4, fun b hb hP => h5 b (List.mem_range.2 hb) hP⟩

theorem imin (f : Nat → Rat) (P : Nat → Prop) {n : Nat} (h : ∃ a, a < n ∧ P a) : ∃ a, a < n ∧ P a ∧ ∀ b, b < n → P b → f a ≤ f b := by
  obtain ⟨a, h1, h2, h3⟩ := imax (fun i => -f i) P h
  exact ⟨a, h1, h2, fun b hb hP => by have := h3 b hb hP; grind⟩

/- sums -/

def sumR (f : Nat → Rat) : Nat → Rat
  | 0 => 0
  | n + 1 => sumR f n + f n

theorem sumR_congr {f g : Nat → Rat} : ∀ {n : Nat}, (∀ i, i < n → f i = g i) → sumR f n = sumR g n
  | 0, _ => rfl
  | n + 1, h => by rw [sumR, sumR, sumR_congr (fun i hi => h i (by omega)), h n (by omega)]

theorem sumR_le {f g : Nat → Rat} : ∀ {n : Nat}, (∀ i, i < n → f i ≤ g i) → sumR f n ≤ sumR g n
  | 0, _ => Rat.le_refl
  | n + 1, h => by
    have h1 := sumR_le (f := f) (g := g) (n := n) (fun i hi => h i (by omega))
    have h2 := h n (by omega)
    rw [sumR, sumR]; grind

theorem sumR_mul (f : Nat → Rat) (c : Rat) : ∀ n, sumR (fun i => c * f i) n = c * sumR f n
  | 0 => by simp [sumR]
  | n + 1 => by rw [sumR, sumR, sumR_mul f c n]; grind

theorem sumR_add (f g : Nat → Rat) : ∀ n, sumR (fun i => f i + g i) n = sumR f n + sumR g n
  | 0 => by simp only [sumR]; grind
  | n + 1 => by rw [sumR, sumR, sumR, sumR_add f g n]; grind

/- the weighted middle -/

theorem absR_eq {a : Rat} : absR a = if a < 0 then -a else a := rfl

theorem absR_nonneg (a : Rat) : 0 ≤ absR a := by rw [absR_eq]; split <;> grind

theorem absR_neg (a : Rat) : absR (-a) = absR a := by rw [absR_eq, absR_eq]; split <;> split <;> grind

theorem absR_mul (a b : Rat) : absR (a * b) = absR a * absR b := by
  have key : ∀ x y : Rat, 0 ≤ x → 0 ≤ y → absR (x * y) = x * y := fun x y h1 h2 => by
    have := Rat.mul_nonneg h1 h2
    rw [absR_eq, if_neg (by grind)]
  rw [absR_eq (a := a), absR_eq (a := b)]
  split <;> split
  · rename_i h1 h2
    rw [← key (-a) (-b) (by grind) (by grind)]; congr 1; grind
  · rename_i h1 h2
    rw [← key (-a) b (by grind) (by grind), ← absR_neg]; congr 1; grind
  · rename_i h1 h2
    rw [← key a (-b) (by grind) (by grind), ← absR_neg]; congr 1; grind
  · rename_i h1 h2
    exact key a b (by grind) (by grind)

theorem mid_lin {s a b t : Rat} (h1 : a < t) (h2 : t < b) (h : s ≤ a ∨ b ≤ s) : (b - a) * absR (s - t) = (b - t) * absR (s - a) + (t - a) * absR (s - b) := by
  rcases h with h | h
  · rw [show absR (s - t) = t - s by rw [absR_eq]; split <;> grind, show absR (s - a) = a - s by rw [absR_eq]; split <;> grind, show absR (s - b) = b - s by rw [absR_eq]; split <;> grind]; grind
  · rw [show absR (s - t) = s - t by rw [absR_eq]; split <;> grind, show absR (s - a) = s - a by rw [absR_eq]; split <;> grind, show absR (s - b) = s - b by rw [absR_eq]; split <;> grind]; grind

def dev (w s : Nat → Rat) (n : Nat) (t : Rat) : Rat := sumR (fun i => w i * absR (s i - t)) n

theorem dev_le {w s : Nat → Rat} {n : Nat} {t u : Rat} (hw : ∀ i, i < n → 0 ≤ w i) (h : ∀ i, i < n → 0 < w i → absR (s i - u) ≤ absR (s i - t)) : dev w s n u ≤ dev w s n t := by
  refine sumR_le fun i hi => ?_
  by_cases h0 : 0 < w i
  · exact Rat.mul_le_mul_of_nonneg_left (h i hi h0) (hw i hi)
  · have : w i = 0 := Rat.le_antisymm (Rat.not_lt.1 h0) (hw i hi)
    rw [this]; simp

theorem dev_mid {w s : Nat → Rat} {n : Nat} (hw : ∀ i, i < n → 0 ≤ w i) (h0 : ∃ i, i < n ∧ 0 < w i) (t : Rat) : ∃ j, j < n ∧ 0 < w j ∧ dev w s n (s j) ≤ dev w s n t := by
  classical
  by_cases hl : ∃ i, i < n ∧ (0 < w i ∧ s i ≤ t)
  · obtain ⟨a, ha, ⟨ha1, ha2⟩, ha3⟩ := imax s (fun i => 0 < w i ∧ s i ≤ t) hl
    by_cases hr : ∃ i, i < n ∧ (0 < w i ∧ t ≤ s i)
    · obtain ⟨b, hb, ⟨hb1, hb2⟩, hb3⟩ := imin s (fun i => 0 < w i ∧ t ≤ s i) hr
      by_cases e1 : s a = t
      · exact ⟨a, ha, ha1, by rw [e1]; exact Rat.le_refl⟩
      by_cases e2 : s b = t
      · exact ⟨b, hb, hb1, by rw [e2]; exact Rat.le_refl⟩
      have h1 : s a < t := Rat.lt_of_le_of_ne ha2 e1
      have h2 : t < s b := Rat.lt_of_le_of_ne hb2 (fun h => e2 h.symm)
      have key : (s b - s a) * dev w s n t = (s b - t) * dev w s n (s a) + (t - s a) * dev w s n (s b) := by
        unfold dev
        rw [← sumR_mul, ← sumR_mul, ← sumR_mul, ← sumR_add]
        refine sumR_congr fun i hi => ?_
        by_cases h0 : 0 < w i
        · have h3 : s i ≤ s a ∨ s b ≤ s i := by
            rcases Rat.le_total (a := s i) (b := t) with h4 | h4
            · exact .inl (ha3 i hi ⟨h0, h4⟩)
            · exact .inr (hb3 i hi ⟨h0, h4⟩)
          have := mid_lin h1 h2 h3
          grind
        · have : w i = 0 := Rat.le_antisymm (Rat.not_lt.1 h0) (hw i hi)
          rw [this]; grind
      by_cases h3 : dev w s n (s a) ≤ dev w s n t
      · exact ⟨a, ha, ha1, h3⟩
      by_cases h4 : dev w s n (s b) ≤ dev w s n t
      · exact ⟨b, hb, hb1, h4⟩
      exfalso
      have h5 := Rat.mul_lt_mul_of_pos_left (Rat.not_le.1 h3) (c := s b - t) (by grind)
      have h6 := Rat.mul_lt_mul_of_pos_left (Rat.not_le.1 h4) (c := t - s a) (by grind)
      grind
    · refine ⟨a, ha, ha1, dev_le hw fun i hi h0 => ?_⟩
      have h1 : s i ≤ t := Rat.not_lt.1 fun h => hr ⟨i, hi, h0, Rat.le_of_lt h⟩
      have h2 := ha3 i hi ⟨h0, h1⟩
      rw [absR_eq, absR_eq]; split <;> split <;> grind
  · obtain ⟨i0, hi0, hw0⟩ := h0
    have hall : ∀ i, i < n → 0 < w i → t < s i := fun i hi h0 => Rat.not_le.1 fun h => hl ⟨i, hi, h0, h⟩
    obtain ⟨b, hb, hb1, hb3⟩ := imin s (fun i => 0 < w i) ⟨i0, hi0, hw0⟩
    refine ⟨b, hb, hb1, dev_le hw fun i hi h0 => ?_⟩
    have h1 := hall i hi h0
    have h2 := hb3 i hi h0
    have h3 := hall b hb hb1
    rw [absR_eq, absR_eq]; split <;> split <;> grind

/- the nearest line goes through two points -/

def cost (X Y : Nat → Rat) (n : Nat) (a b : Rat) : Rat := sumR (fun j => absR (Y j - (a * X j + b))) n

theorem near_two {X Y : Nat → Rat} {n : Nat} (h : ∃ i k, i < n ∧ k < n ∧ X i ≠ X k) (p q : Rat) : ∃ i k, i < n ∧ k < n ∧ X i ≠ X k ∧ cost X Y n ((Y k - Y i) / (X k - X i)) (Y i - (Y k - Y i) / (X k - X i) * X i) ≤ cost X Y n p q := by
  obtain ⟨i0, k0, hi0, hk0, hne⟩ := h
  obtain ⟨i, hi, _, h1⟩ := dev_mid (w := fun _ => 1) (s := fun j => Y j - p * X j) (n := n) (fun _ _ => by decide) ⟨i0, hi0, by decide⟩ q
  have e1 : ∀ q, dev (fun _ => 1) (fun j => Y j - p * X j) n q = cost X Y n p q := fun q => sumR_congr fun j _ => by
    rw [Rat.one_mul]; congr 1; grind
  rw [e1, e1] at h1
  have h0 : ∃ k, k < n ∧ 0 < absR (X k - X i) := by
    by_cases h2 : X i0 = X i
    · refine ⟨k0, hk0, ?_⟩
      have : X k0 ≠ X i := fun h => hne (h2.trans h.symm)
      rw [absR_eq]; split <;> grind
    · refine ⟨i0, hi0, ?_⟩
      rw [absR_eq]; split <;> grind
  obtain ⟨k, hk, hk0, h3⟩ := dev_mid (w := fun j => absR (X j - X i)) (s := fun j => (Y j - Y i) / (X j - X i)) (n := n) (fun _ _ => absR_nonneg _) h0 p
  have hne2 : X i ≠ X k := fun h => by rw [h, show X k - X k = 0 by grind] at hk0; exact absurd hk0 (by decide)
  refine ⟨i, k, hi, hk, hne2, ?_⟩
  have e2 : ∀ t, dev (fun j => absR (X j - X i)) (fun j => (Y j - Y i) / (X j - X i)) n t + sumR (fun j => if X j = X i then absR (Y j - Y i) else 0) n = cost X Y n t (Y i - t * X i) := fun t => by
    unfold dev
    rw [← sumR_add]
    refine sumR_congr fun j _ => ?_
    show absR (X j - X i) * absR ((Y j - Y i) / (X j - X i) - t) + _ = _
    by_cases h4 : X j = X i
    · rw [if_pos h4, h4, show X i - X i = 0 by grind, show absR 0 = 0 from rfl, Rat.zero_mul, Rat.zero_add]
      congr 1; grind
    · rw [if_neg h4, ← absR_mul, Rat.add_zero]
      have : X j - X i ≠ 0 := by grind
      congr 1; grind
  have h5 := Rat.add_le_add_right (c := sumR (fun j => if X j = X i then absR (Y j - Y i) else 0) n) |>.2 h3
  rw [e2, e2] at h5
  exact Rat.le_trans h5 h1

theorem div_neg' {a d : Rat} (hd : d ≠ 0) : a / (-d) = -(a / d) := by grind

def frV (q : Rat) : AV := .agg [.int .i64 q.num, .int .i64 (q.den : Int)]

theorem tmod_gcd (a b : Int) : Int.gcd b (a.tmod b) = Int.gcd a b := by
  unfold Int.gcd
  rw [Int.natAbs_tmod, Nat.gcd_comm a.natAbs, Nat.gcd_rec b.natAbs a.natAbs, Nat.gcd_comm]

theorem gcd_ok {H : Heap} {a b : Int} (ha : -4611686018427387904 ≤ a ∧ a ≤ 4611686018427387904) (hb : -4611686018427387904 ≤ b ∧ b ≤ 4611686018427387904) :
    ACalls Try.prog fn_spec_gcd [.int .i64 a, .int .i64 b] H fun r H' => r = .int .i64 (Int.gcd a b : Nat) ∧ H' = H := by
  refine ACalls.val ?_ rfl
  refine code_spec_gcd.go [] trivial (by simp) ?_
  unfold mc_spec_gcd
  (repeat (first | with_reducible (first | refine go_nil ?_ | refine gk_seq ?_ | refine gc_seq ?_ | refine gc_reg ?_ | refine gc_skip ?_ | refine gk_block ?_ | refine gc_block ?_ | refine gc_exit ?_ | refine gc_ret ?_ | refine gk_seqret ?_ | refine gk_seqexit ?_ | refine gk_blockret ?_ | refine gk_out ?_ | refine gk_loopret ?_ | refine gk_loopexit ?_) | (show GO _ _ _ _ _ (⟨some _, none, _⟩ :: _) _; first | refine go_op (hk := ?_) | (refine go_nw (hk := ?_); intro u; try simp only [List.length_cons, List.length_nil, List.nil_append, Nat.zero_add]) | (refine go_np (hk := ?_); intro id)) | (show GO _ _ _ _ _ (⟨none, none, _⟩ :: _) _; refine go_st (hk := ?_)) | (show GO _ _ _ _ _ (⟨_, some _, _⟩ :: _) _; first | refine go_in (hk := ?_) | refine go_out (hk := ?_) | refine go_void (hk := ?_)) | (show GK _ _ _ _ (blockK _ _ _); refine gk_past rfl ?_) | (show GC _ _ _ _ _ (.cond _ _ _) _; first | refine gc_yes (h1 := ?_) | refine gc_no (h1 := ?_))))
  refine gc_loop (γ := Int × Int) (fun t => [(0, .int .i64 t.1), (1, .int .i64 t.2)]) (fun _ => []) (fun t => Int.gcd t.1 t.2 = Int.gcd a b ∧ (-4611686018427387904 ≤ t.1 ∧ t.1 ≤ 4611686018427387904) ∧ (-4611686018427387904 ≤ t.2 ∧ t.2 ≤ 4611686018427387904)) (fun t => t.2.natAbs) (a, b) ⟨rfl, ha, hb⟩ (hb := ?_)
  rintro ⟨x, y⟩ ⟨h1, h2, h3⟩ I ν m hk
  simp only at h1 h2 h3 hk ⊢
  (repeat (first | with_reducible (first | refine go_nil ?_ | refine gk_seq ?_ | refine gc_seq ?_ | refine gc_reg ?_ | refine gc_skip ?_ | refine gk_block ?_ | refine gc_block ?_ | refine gc_exit ?_ | refine gc_ret ?_ | refine gk_seqret ?_ | refine gk_seqexit ?_ | refine gk_blockret ?_ | refine gk_out ?_ | refine gk_loopret ?_ | refine gk_loopexit ?_) | (show GO _ _ _ _ _ (⟨some _, none, _⟩ :: _) _; first | refine go_op (hk := ?_) | (refine go_nw (hk := ?_); intro u; try simp only [List.length_cons, List.length_nil, List.nil_append, Nat.zero_add]) | (refine go_np (hk := ?_); intro id)) | (show GO _ _ _ _ _ (⟨none, none, _⟩ :: _) _; refine go_st (hk := ?_)) | (show GO _ _ _ _ _ (⟨_, some _, _⟩ :: _) _; first | refine go_in (hk := ?_) | refine go_out (hk := ?_) | refine go_void (hk := ?_)) | (show GK _ _ _ _ (blockK _ _ _); refine gk_past rfl ?_) | (show GC _ _ _ _ _ (.cond _ _ _) _; first | refine gc_yes (h1 := ?_) | refine gc_no (h1 := ?_))))
  refine gc_cond rfl (fun h => ?_) (fun h => ?_)
  · have h4 : (x.tmod y).natAbs < y.natAbs := by
      rw [Int.natAbs_tmod]; exact Nat.mod_lt _ (by omega)
    (repeat (first | with_reducible (first | refine go_nil ?_ | refine gk_seq ?_ | refine gc_seq ?_ | refine gc_reg ?_ | refine gc_skip ?_ | refine gk_block ?_ | refine gc_block ?_ | refine gc_exit ?_ | refine gc_ret ?_ | refine gk_seqret ?_ | refine gk_seqexit ?_ | refine gk_blockret ?_ | refine gk_out ?_ | refine gk_loopret ?_ | refine gk_loopexit ?_) | (show GO _ _ _ _ _ (⟨some _, none, _⟩ :: _) _; first | refine go_op (hk := ?_) | (refine go_nw (hk := ?_); intro u; try simp only [List.length_cons, List.length_nil, List.nil_append, Nat.zero_add]) | (refine go_np (hk := ?_); intro id)) | (show GO _ _ _ _ _ (⟨none, none, _⟩ :: _) _; refine go_st (hk := ?_)) | (show GO _ _ _ _ _ (⟨_, some _, _⟩ :: _) _; first | refine go_in (hk := ?_) | refine go_out (hk := ?_) | refine go_void (hk := ?_)) | (show GK _ _ _ _ (blockK _ _ _); refine gk_past rfl ?_) | (show GC _ _ _ _ _ (.cond _ _ _) _; first | refine gc_yes (h1 := ?_) | refine gc_no (h1 := ?_))))
    refine go_is rfl (stp_rem rfl rfl h) ?_
    (repeat (first | with_reducible (first | refine go_nil ?_ | refine gk_seq ?_ | refine gc_seq ?_ | refine gc_reg ?_ | refine gc_skip ?_ | refine gk_block ?_ | refine gc_block ?_ | refine gc_exit ?_ | refine gc_ret ?_ | refine gk_seqret ?_ | refine gk_seqexit ?_ | refine gk_blockret ?_ | refine gk_out ?_ | refine gk_loopret ?_ | refine gk_loopexit ?_) | (show GO _ _ _ _ _ (⟨some _, none, _⟩ :: _) _; first | refine go_op (hk := ?_) | (refine go_nw (hk := ?_); intro u; try simp only [List.length_cons, List.length_nil, List.nil_append, Nat.zero_add]) | (refine go_np (hk := ?_); intro id)) | (show GO _ _ _ _ _ (⟨none, none, _⟩ :: _) _; refine go_st (hk := ?_)) | (show GO _ _ _ _ _ (⟨_, some _, _⟩ :: _) _; first | refine go_in (hk := ?_) | refine go_out (hk := ?_) | refine go_void (hk := ?_)) | (show GK _ _ _ _ (blockK _ _ _); refine gk_past rfl ?_) | (show GC _ _ _ _ _ (.cond _ _ _) _; first | refine gc_yes (h1 := ?_) | refine gc_no (h1 := ?_))))
    exact gk_next (hk (y, x.tmod y) ⟨by rw [tmod_gcd]; exact h1, h3, by simp only; omega⟩ h4)
  · have hy : y = 0 := by omega
    subst hy
    have e : (Int.gcd a b : Nat) = x.natAbs := by rw [← h1]; simp [Int.gcd]
    (repeat (first | with_reducible (first | refine go_nil ?_ | refine gk_seq ?_ | refine gc_seq ?_ | refine gc_reg ?_ | refine gc_skip ?_ | refine gk_block ?_ | refine gc_block ?_ | refine gc_exit ?_ | refine gc_ret ?_ | refine gk_seqret ?_ | refine gk_seqexit ?_ | refine gk_blockret ?_ | refine gk_out ?_ | refine gk_loopret ?_ | refine gk_loopexit ?_) | (show GO _ _ _ _ _ (⟨some _, none, _⟩ :: _) _; first | refine go_op (hk := ?_) | (refine go_nw (hk := ?_); intro u; try simp only [List.length_cons, List.length_nil, List.nil_append, Nat.zero_add]) | (refine go_np (hk := ?_); intro id)) | (show GO _ _ _ _ _ (⟨none, none, _⟩ :: _) _; refine go_st (hk := ?_)) | (show GO _ _ _ _ _ (⟨_, some _, _⟩ :: _) _; first | refine go_in (hk := ?_) | refine go_out (hk := ?_) | refine go_void (hk := ?_)) | (show GK _ _ _ _ (blockK _ _ _); refine gk_past rfl ?_) | (show GC _ _ _ _ _ (.cond _ _ _) _; first | refine gc_yes (h1 := ?_) | refine gc_no (h1 := ?_))))
    exact gk_ret rfl fun H' hH => ⟨by rw [e]; show AV.int _ (max x (-x)) = _; congr 1; omega, hH.leE⟩

theorem div_num {a b : Int} (h : b ≠ 0) : ((a : Rat) / (b : Rat)).num = (b.sign * a).tdiv (Int.gcd a b : Nat) ∧ (((a : Rat) / (b : Rat)).den : Int) = (max b (-b)) / (Int.gcd a b : Nat) := by
  rw [← Rat.divInt_eq_div, Rat.num_divInt, Rat.den_divInt, if_neg h, Int.gcd_comm b a]
  have hg : (0 : Int) < (Int.gcd a b : Nat) := by
    have := Int.gcd_pos_of_ne_zero_right a h
    omega
  refine ⟨?_, ?_⟩
  · rw [Int.tdiv_eq_ediv_of_dvd]
    exact Int.dvd_mul_of_dvd_right (Int.gcd_dvd_left ..)
  · rw [Int.natCast_ediv]
    congr 1
    omega

theorem tdiv_in {a g B : Int} (h : -B ≤ a ∧ a ≤ B) : -B ≤ a.tdiv g ∧ a.tdiv g ≤ B := by
  have h1 : (a.tdiv g).natAbs ≤ a.natAbs := by rw [Int.natAbs_tdiv]; exact Nat.div_le_self _ _
  omega

end Go.Rx.Try
