import Derived.Test.YtophpmdlgphihakFnRiseByBlocksCode
import Derived.Test.YtophpmdlgphihakRxJ
namespace Go.Rx.Try
open Go.Proofs
set_option maxRecDepth 100000
set_option maxHeartbeats 8000000
set_option linter.unusedSimpArgs false
set_option linter.unusedVariables false

theorem inRange_ok {H : Heap} {a b n : Int} : ACalls Try.prog fn_spec_inRange [.int .i64 n, .int .i64 a, .int .i64 b] H fun r H' => r = .bool (decide (a ≤ n ∧ n ≤ b)) ∧ H' = H := by
  refine ACalls.val ?_ rfl
  refine code_spec_inRange.go [] trivial (by simp) ?_
  unfold mc_spec_inRange
  (repeat (first | refine gst (hk := ?_) | (show GO _ _ _ _ _ (⟨some _, none, _⟩ :: _) _; first | refine go_op (hk := ?_) | (refine go_nw (hk := ?_); intro u; try simp only [llc, lln, lna, lza]) | (refine go_np (hk := ?_); intro id)) | (show GO _ _ _ _ _ (⟨none, none, _⟩ :: _) _; refine go_st (hk := ?_)) | (show GO _ _ _ _ _ (⟨_, some _, _⟩ :: _) _; first | refine go_in (hk := ?_) | refine go_out (hk := ?_) | refine go_void (hk := ?_)) | (show GK _ _ _ _ (blockK _ _ _); refine gk_past rfl ?_) | (show GC _ _ _ _ _ (.cond _ _ _) _; first | refine gc_yes (h1 := ?_) | refine gc_no (h1 := ?_))))
  refine go_split 10 rfl (fun h => ?_) (fun h => ?_)
  · (repeat (first | refine gst (hk := ?_) | (show GO _ _ _ _ _ (⟨some _, none, _⟩ :: _) _; first | refine go_op (hk := ?_) | (refine go_nw (hk := ?_); intro u; try simp only [llc, lln, lna, lza]) | (refine go_np (hk := ?_); intro id)) | (show GO _ _ _ _ _ (⟨none, none, _⟩ :: _) _; refine go_st (hk := ?_)) | (show GO _ _ _ _ _ (⟨_, some _, _⟩ :: _) _; first | refine go_in (hk := ?_) | refine go_out (hk := ?_) | refine go_void (hk := ?_)) | (show GK _ _ _ _ (blockK _ _ _); refine gk_past rfl ?_) | (show GC _ _ _ _ _ (.cond _ _ _) _; first | refine gc_yes (h1 := ?_) | refine gc_no (h1 := ?_))))
    refine gk_ret rfl fun H' hH => ⟨?_, hH.leE⟩
    simp [tupleOf, h]
  · (repeat (first | refine gst (hk := ?_) | (show GO _ _ _ _ _ (⟨some _, none, _⟩ :: _) _; first | refine go_op (hk := ?_) | (refine go_nw (hk := ?_); intro u; try simp only [llc, lln, lna, lza]) | (refine go_np (hk := ?_); intro id)) | (show GO _ _ _ _ _ (⟨none, none, _⟩ :: _) _; refine go_st (hk := ?_)) | (show GO _ _ _ _ _ (⟨_, some _, _⟩ :: _) _; first | refine go_in (hk := ?_) | refine go_out (hk := ?_) | refine go_void (hk := ?_)) | (show GK _ _ _ _ (blockK _ _ _); refine gk_past rfl ?_) | (show GC _ _ _ _ _ (.cond _ _ _) _; first | refine gc_yes (h1 := ?_) | refine gc_no (h1 := ?_))))
    refine gk_ret rfl fun H' hH => ⟨?_, hH.leE⟩
    simp [tupleOf, h]

def Data (xs : List Int) : Prop := xs.length ≤ 10 ∧ ∀ k < xs.length, -200 ≤ nth xs k ∧ nth xs k ≤ 200

noncomputable instance (xs : List Int) : Decidable (Data xs) := Classical.propDecidable _

theorem go_inRange {A : Heap} {X : List Nat} {E : List (Nat × AV)} {S : Sig} {K : St → Prop} {r : List MI} {d : Nat} {x y z : MX} {n a b : Int} (hx : evE E x = some (.int .i64 n) := by exact rfl) (hy : evE E y = some (.int .i64 a) := by exact rfl) (hz : evE E z = some (.int .i64 b) := by exact rfl)
    (hk : GO Try.prog A X ((d, .bool (decide (a ≤ n ∧ n ≤ b))) :: E) S r K) : GO Try.prog A X E S (⟨some d, none, .call fn_spec_inRange [x, y, z]⟩ :: r) K :=
  go_callp (by simp only [evsE, hx, hy, hz]) code_spec_inRange.callable (fun H hH => inRange_ok) hk

def Samples (xs ys : List Int) : Prop := (Data xs ∧ Data ys) ∧ xs.length + ys.length ≤ 10 ∧ 0 < xs.length ∧ 0 < ys.length

noncomputable instance (xs ys : List Int) : Decidable (Samples xs ys) := Classical.propDecidable _

def sgn (n : Int) : Int := if 0 < n then 1 else if n < 0 then -1 else 0

/-- a reader: its bytes, and its place -/
abbrev rdr (id : Nat) (bv : AV) (p : Nat) : Ch := ⟨.cell, .ptr id 0, 2, 1, [bv, .int .i64 (p : Int)]⟩

abbrev byt (bv : AV) (bs : List Int) : Ch := ⟨.ro, bv, 1, bs.length, bytesL bs⟩

def ByteOk (bs : List Int) : Prop := bs.length ≤ 2000 ∧ ∀ i, 0 ≤ nth bs i ∧ nth bs i ≤ 255

theorem pick_ok {A : Heap} {X : List Nat} {S S0 : Sig} {H : Heap} {id p : Nat} {bv : AV} {bs : List Int} {n : Int} (hS : SOk A X S H.size H) (hs : Sel S (rdr id bv p) S0) (hR : SubF S0 [byt bv bs]) (hb : ByteOk bs) (hp : p ≤ 1000000000) :
    ACalls Try.prog fn_spec_reader_pick [.ptr id 0, .int .i64 n] H fun r H' => ∃ x : Int, r = .int .i64 x ∧ SOk A X (rdr id bv (p + 1) :: S0) H'.size H' ∧ (0 ≤ x ∧ (x < n ∨ x = 0)) := by
  refine code_spec_reader_pick.gowg (T := fun _ => []) (C := fun _ => rdr id bv (p + 1)) hS hs rfl hR rfl (fun _ => rfl) (fun _ => rfl) (fun _ => rfl) (by simp) ?_
  intro X'
  unfold mc_spec_reader_pick
  (repeat (first | refine gst (hk := ?_) | (with_reducible refine gc_drq ?_; intro _) | (show GO _ _ _ _ _ (⟨some _, none, _⟩ :: _) _; first | refine go_op (hk := ?_) | (refine go_nw (hk := ?_); intro u; try simp only [llc, lln, lna, lza]) | (refine go_np (hk := ?_); intro id)) | (show GQ _ _ _ _ _ _ _ (⟨some _, none, _⟩ :: _) _; first | refine gq_op (hk := ?_) | (refine gq_nw (hk := ?_); intro u; try simp only [llc, lln, lna, lza])) | (show GO _ _ _ _ _ (⟨none, none, _⟩ :: _) _; refine go_st (hk := ?_)) | (show GO _ _ _ _ _ (⟨_, some _, _⟩ :: _) _; first | refine go_in (hk := ?_) | refine go_out (hk := ?_) | refine go_void (hk := ?_)) | (show GQ _ _ _ _ _ _ _ (⟨_, some _, _⟩ :: _) _; first | refine gq_in (hk := ?_) | refine gq_out (hk := ?_) | refine gq_void (hk := ?_)) | (show GK _ _ _ _ (blockK _ _ _); refine gk_past rfl ?_) | (show GC _ _ _ _ _ (.cond _ _ _) _; first | refine gc_yes (h1 := ?_) | refine gc_no (h1 := ?_))))
  have hb1 := hb.1
  refine go_split 17 rfl (fun h => ?_) (fun h => ?_)
  · (repeat (first | refine gst (hk := ?_) | (with_reducible refine gc_drq ?_; intro _) | (show GO _ _ _ _ _ (⟨some _, none, _⟩ :: _) _; first | refine go_op (hk := ?_) | (refine go_nw (hk := ?_); intro u; try simp only [llc, lln, lna, lza]) | (refine go_np (hk := ?_); intro id)) | (show GQ _ _ _ _ _ _ _ (⟨some _, none, _⟩ :: _) _; first | refine gq_op (hk := ?_) | (refine gq_nw (hk := ?_); intro u; try simp only [llc, lln, lna, lza])) | (show GO _ _ _ _ _ (⟨none, none, _⟩ :: _) _; refine go_st (hk := ?_)) | (show GO _ _ _ _ _ (⟨_, some _, _⟩ :: _) _; first | refine go_in (hk := ?_) | refine go_out (hk := ?_) | refine go_void (hk := ?_)) | (show GQ _ _ _ _ _ _ _ (⟨_, some _, _⟩ :: _) _; first | refine gq_in (hk := ?_) | refine gq_out (hk := ?_) | refine gq_void (hk := ?_)) | (show GK _ _ _ _ (blockK _ _ _); refine gk_past rfl ?_) | (show GC _ _ _ _ _ (.cond _ _ _) _; first | refine gc_yes (h1 := ?_) | refine gc_no (h1 := ?_))))
    exact gk_ret rfl fun H' hH => ⟨0, rfl, by omega, hH.sub (by exact Sub.auto)⟩
  (repeat (first | refine gst (hk := ?_) | (with_reducible refine gc_drq ?_; intro _) | (show GO _ _ _ _ _ (⟨some _, none, _⟩ :: _) _; first | refine go_op (hk := ?_) | (refine go_nw (hk := ?_); intro u; try simp only [llc, lln, lna, lza]) | (refine go_np (hk := ?_); intro id)) | (show GQ _ _ _ _ _ _ _ (⟨some _, none, _⟩ :: _) _; first | refine gq_op (hk := ?_) | (refine gq_nw (hk := ?_); intro u; try simp only [llc, lln, lna, lza])) | (show GO _ _ _ _ _ (⟨none, none, _⟩ :: _) _; refine go_st (hk := ?_)) | (show GO _ _ _ _ _ (⟨_, some _, _⟩ :: _) _; first | refine go_in (hk := ?_) | refine go_out (hk := ?_) | refine go_void (hk := ?_)) | (show GQ _ _ _ _ _ _ _ (⟨_, some _, _⟩ :: _) _; first | refine gq_in (hk := ?_) | refine gq_out (hk := ?_) | refine gq_void (hk := ?_)) | (show GK _ _ _ _ (blockK _ _ _); refine gk_past rfl ?_) | (show GC _ _ _ _ _ (.cond _ _ _) _; first | refine gc_yes (h1 := ?_) | refine gc_no (h1 := ?_))))
  refine gc_cond rfl (fun h2 => ?_) (fun h2 => ?_)
  · (repeat (first | refine gst (hk := ?_) | (with_reducible refine gc_drq ?_; intro _) | (show GO _ _ _ _ _ (⟨some _, none, _⟩ :: _) _; first | refine go_op (hk := ?_) | (refine go_nw (hk := ?_); intro u; try simp only [llc, lln, lna, lza]) | (refine go_np (hk := ?_); intro id)) | (show GQ _ _ _ _ _ _ _ (⟨some _, none, _⟩ :: _) _; first | refine gq_op (hk := ?_) | (refine gq_nw (hk := ?_); intro u; try simp only [llc, lln, lna, lza])) | (show GO _ _ _ _ _ (⟨none, none, _⟩ :: _) _; refine go_st (hk := ?_)) | (show GO _ _ _ _ _ (⟨_, some _, _⟩ :: _) _; first | refine go_in (hk := ?_) | refine go_out (hk := ?_) | refine go_void (hk := ?_)) | (show GQ _ _ _ _ _ _ _ (⟨_, some _, _⟩ :: _) _; first | refine gq_in (hk := ?_) | refine gq_out (hk := ?_) | refine gq_void (hk := ?_)) | (show GK _ _ _ _ (blockK _ _ _); refine gk_past rfl ?_) | (show GC _ _ _ _ _ (.cond _ _ _) _; first | refine gc_yes (h1 := ?_) | refine gc_no (h1 := ?_))))
    exact gk_ret rfl fun H' hH => ⟨0, rfl, by omega, hH.sub (by exact Sub.auto)⟩
  (repeat (first | refine gst (hk := ?_) | (with_reducible refine gc_drq ?_; intro _) | (show GO _ _ _ _ _ (⟨some _, none, _⟩ :: _) _; first | refine go_op (hk := ?_) | (refine go_nw (hk := ?_); intro u; try simp only [llc, lln, lna, lza]) | (refine go_np (hk := ?_); intro id)) | (show GQ _ _ _ _ _ _ _ (⟨some _, none, _⟩ :: _) _; first | refine gq_op (hk := ?_) | (refine gq_nw (hk := ?_); intro u; try simp only [llc, lln, lna, lza])) | (show GO _ _ _ _ _ (⟨none, none, _⟩ :: _) _; refine go_st (hk := ?_)) | (show GO _ _ _ _ _ (⟨_, some _, _⟩ :: _) _; first | refine go_in (hk := ?_) | refine go_out (hk := ?_) | refine go_void (hk := ?_)) | (show GQ _ _ _ _ _ _ _ (⟨_, some _, _⟩ :: _) _; first | refine gq_in (hk := ?_) | refine gq_out (hk := ?_) | refine gq_void (hk := ?_)) | (show GK _ _ _ _ (blockK _ _ _); refine gk_past rfl ?_) | (show GC _ _ _ _ _ (.cond _ _ _) _; first | refine gc_yes (h1 := ?_) | refine gc_no (h1 := ?_))))
  have hb2 := hb.2
  refine gc_recall 5 (.int .i64 (p : Int)) rfl (by first | rfl | (congr 1; omega)) ?_
  refine gc_cond rfl (fun h3 => ?_) (fun h3 => ?_)
  · have hq := hb2 p
    (repeat (first | refine gst (hk := ?_) | (with_reducible refine gc_drq ?_; intro _) | (show GO _ _ _ _ _ (⟨some _, none, _⟩ :: _) _; first | refine go_op (hk := ?_) | (refine go_nw (hk := ?_); intro u; try simp only [llc, lln, lna, lza]) | (refine go_np (hk := ?_); intro id)) | (show GQ _ _ _ _ _ _ _ (⟨some _, none, _⟩ :: _) _; first | refine gq_op (hk := ?_) | (refine gq_nw (hk := ?_); intro u; try simp only [llc, lln, lna, lza])) | (show GO _ _ _ _ _ (⟨none, none, _⟩ :: _) _; refine go_st (hk := ?_)) | (show GO _ _ _ _ _ (⟨_, some _, _⟩ :: _) _; first | refine go_in (hk := ?_) | refine go_out (hk := ?_) | refine go_void (hk := ?_)) | (show GQ _ _ _ _ _ _ _ (⟨_, some _, _⟩ :: _) _; first | refine gq_in (hk := ?_) | refine gq_out (hk := ?_) | refine gq_void (hk := ?_)) | (show GK _ _ _ _ (blockK _ _ _); refine gk_past rfl ?_) | (show GC _ _ _ _ _ (.cond _ _ _) _; first | refine gc_yes (h1 := ?_) | refine gc_no (h1 := ?_))))
    refine gk_ret rfl fun H' hH => ⟨nth bs p % n, rfl, ?_, hH.sub (by exact Sub.auto)⟩
    have h4 := Int.emod_nonneg (nth bs p) (b := n) (by omega)
    have h5 := Int.emod_lt_of_pos (nth bs p) (b := n) (by omega)
    omega
  have q0 : (0 : Int) < bs.length := by omega
  have q1 := Int.emod_nonneg (p : Int) (b := bs.length) (by omega)
  have q2 := Int.emod_lt_of_pos (p : Int) q0
  have q3 := Int.emod_nonneg ((p : Int) * 7 + 3) (b := bs.length) (by omega)
  have q4 := Int.emod_lt_of_pos ((p : Int) * 7 + 3) q0
  have q5 := Int.ediv_nonneg (a := (p : Int)) (b := bs.length) (by omega) (by omega)
  have q6 := Int.ediv_le_self (a := (p : Int)) (bs.length) (by omega)
  have q7 := hb2 ((p : Int) % bs.length).toNat
  have q8 := hb2 (((p : Int) * 7 + 3) % bs.length).toNat
  (repeat (first | refine gst (hk := ?_) | (with_reducible refine gc_drq ?_; intro _) | (show GO _ _ _ _ _ (⟨some _, none, _⟩ :: _) _; first | refine go_op (hk := ?_) | (refine go_nw (hk := ?_); intro u; try simp only [llc, lln, lna, lza]) | (refine go_np (hk := ?_); intro id)) | (show GQ _ _ _ _ _ _ _ (⟨some _, none, _⟩ :: _) _; first | refine gq_op (hk := ?_) | (refine gq_nw (hk := ?_); intro u; try simp only [llc, lln, lna, lza])) | (show GO _ _ _ _ _ (⟨none, none, _⟩ :: _) _; refine go_st (hk := ?_)) | (show GO _ _ _ _ _ (⟨_, some _, _⟩ :: _) _; first | refine go_in (hk := ?_) | refine go_out (hk := ?_) | refine go_void (hk := ?_)) | (show GQ _ _ _ _ _ _ _ (⟨_, some _, _⟩ :: _) _; first | refine gq_in (hk := ?_) | refine gq_out (hk := ?_) | refine gq_void (hk := ?_)) | (show GK _ _ _ _ (blockK _ _ _); refine gk_past rfl ?_) | (show GC _ _ _ _ _ (.cond _ _ _) _; first | refine gc_yes (h1 := ?_) | refine gc_no (h1 := ?_))))
  refine gk_ret rfl fun H' hH => ⟨_, rfl, ?_, hH.sub (by exact Sub.auto)⟩
  generalize ((_ ^^^ _ : Nat) : Int) = z
  have h4 := Int.emod_nonneg z (b := n) (by omega)
  have h5 := Int.emod_lt_of_pos z (b := n) (by omega)
  omega

theorem nth_mem {xs : List Int} {i : Nat} (h : i < xs.length) : nth xs i ∈ xs := by rw [nth_of h]; exact List.getElem_mem h

theorem one_ok {A : Heap} {X : List Nat} {S S0 : Sig} {H : Heap} {id p m : Nat} {bv lv : AV} {bs xs : List Int} (hS : SOk A X S H.size H) (hs : Sel S (rdr id bv p) S0) (hR : SubF S0 [byt bv bs, .roI lv m xs]) (hm : xs.length = m) (hb : ByteOk bs) (hp : p ≤ 1000000000) (hn : 0 < m) (hx : m ≤ 1000) :
    ACalls Try.prog fn_spec_reader_one [.ptr id 0, lv] H fun r H' => ∃ x : Int, r = .int .i64 x ∧ SOk A X (rdr id bv (p + 1) :: S0) H'.size H' ∧ x ∈ xs := by
  refine code_spec_reader_one.gowg (T := fun _ => []) (C := fun _ => rdr id bv (p + 1)) hS hs rfl hR rfl (fun _ => rfl) (fun _ => rfl) (fun _ => rfl) (by simp) ?_
  intro X'
  unfold mc_spec_reader_one
  (repeat (first | refine gst (hk := ?_) | (show GO _ _ _ _ _ (⟨some _, none, .call _ _⟩ :: _) _; first | (refine go_callg rfl code_spec_reader_pick.callable (fun H hH => pick_ok hH (by exact Sel.auto) (by exact SubF.auto) (by assumption) (by omega)) ?_; intro g hg)) | (show GO _ _ _ _ _ (⟨some _, none, _⟩ :: _) _; first | refine go_op (hk := ?_) | (refine go_nw (hk := ?_); intro u; try simp only [llc, lln, lna, lza]) | (refine go_np (hk := ?_); intro id)) | (show GO _ _ _ _ _ (⟨none, none, _⟩ :: _) _; refine go_st (hk := ?_)) | (show GO _ _ _ _ _ (⟨_, some _, _⟩ :: _) _; first | refine go_in (hk := ?_) | refine go_out (hk := ?_) | refine go_void (hk := ?_)) | (show GK _ _ _ _ (blockK _ _ _); refine gk_past rfl ?_) | (show GC _ _ _ _ _ (.cond _ _ _) _; first | refine gc_yes (h1 := ?_) | refine gc_no (h1 := ?_))))
  exact gk_ret rfl fun H' hH => ⟨_, rfl, nth_mem (by omega), hH.sub (by exact Sub.auto)⟩

structure RG where
  id : Nat
  v : AV
  bs : List Int

theorem newReader_ok {A : Heap} {X : List Nat} {S : Sig} {H : Heap} {cv : AV} {bs : List Int} (hS : SOk A X S H.size H) (hh : Has S cv 1 bs.length (bytesL bs)) (hb : ∀ i, 0 ≤ nth bs i ∧ nth bs i ≤ 255) (hl : bs.length ≤ 1048576) :
    ACalls Try.prog fn_spec_newReader [cv] H fun r H' => ∃ g : RG, r = .ptr g.id 0 ∧ SOk A X [rdr g.id g.v 0, byt g.v g.bs] H'.size H' ∧ ByteOk g.bs := by
  have hv := hS.valsA hh
  suffices hq : ACalls Try.prog fn_spec_newReader [cv] H fun r H' => ∃ g : RG, r = .ptr g.id 0 ∧ ByteOk g.bs ∧ SOk H [] [rdr g.id g.v 0, byt g.v g.bs] H'.size H' by
    refine hq.mono ?_
    rintro r H' ⟨g, h1, h2, h3⟩
    exact ⟨g, h1, hS.over h3, h2⟩
  refine code_spec_newReader.go [byt cv bs] ⟨⟨rfl, hv⟩, trivial⟩ (by simp) ?_
  unfold mc_spec_newReader
  (repeat (first | refine gst (hk := ?_) | (show GO _ _ _ _ _ (⟨some _, none, _⟩ :: _) _; first | refine go_op (hk := ?_) | (refine go_nw (hk := ?_); intro u; try simp only [llc, lln, lna, lza]) | (refine go_np (hk := ?_); intro id)) | (show GO _ _ _ _ _ (⟨none, none, _⟩ :: _) _; refine go_st (hk := ?_)) | (show GO _ _ _ _ _ (⟨_, some _, _⟩ :: _) _; first | refine go_in (hk := ?_) | refine go_out (hk := ?_) | refine go_void (hk := ?_)) | (show GK _ _ _ _ (blockK _ _ _); refine gk_past rfl ?_) | (show GC _ _ _ _ _ (.cond _ _ _) _; first | refine gc_yes (h1 := ?_) | refine gc_no (h1 := ?_))))
  refine gc_cond rfl (fun h => ?_) (fun h => ?_)
  · (repeat (first | refine gst (hk := ?_) | (show GO _ _ _ _ _ (⟨some _, none, _⟩ :: _) _; first | refine go_op (hk := ?_) | (refine go_nw (hk := ?_); intro u; try simp only [llc, lln, lna, lza]) | (refine go_np (hk := ?_); intro id)) | (show GO _ _ _ _ _ (⟨none, none, _⟩ :: _) _; refine go_st (hk := ?_)) | (show GO _ _ _ _ _ (⟨_, some _, _⟩ :: _) _; first | refine go_in (hk := ?_) | refine go_out (hk := ?_) | refine go_void (hk := ?_)) | (show GK _ _ _ _ (blockK _ _ _); refine gk_past rfl ?_) | (show GC _ _ _ _ _ (.cond _ _ _) _; first | refine gc_yes (h1 := ?_) | refine gc_no (h1 := ?_))))
    refine go_new rfl (stp_sl (l := 0) (h := 2000) rfl Sel.head (.inl ⟨rfl, rfl⟩) (.inr ⟨_, rfl, rfl⟩) ⟨by omega, by omega⟩) (fun u => ?_)
    have e : ((bytesL bs).drop (0 * 1)).take ((2000 - 0) * 1) = bytesL (bs.take 2000) := by simp [bytesL, List.map_take]
    have e2 : 2000 - 0 = (bs.take 2000).length := by simp; omega
    have e3 : (bs.take 2000).length ≤ 2000 := by omega
    rw [e, e2]
    (repeat (first | refine gst (hk := ?_) | (show GO _ _ _ _ _ (⟨some _, none, _⟩ :: _) _; first | refine go_op (hk := ?_) | (refine go_nw (hk := ?_); intro u; try simp only [llc, lln, lna, lza]) | (refine go_np (hk := ?_); intro id)) | (show GO _ _ _ _ _ (⟨none, none, _⟩ :: _) _; refine go_st (hk := ?_)) | (show GO _ _ _ _ _ (⟨_, some _, _⟩ :: _) _; first | refine go_in (hk := ?_) | refine go_out (hk := ?_) | refine go_void (hk := ?_)) | (show GK _ _ _ _ (blockK _ _ _); refine gk_past rfl ?_) | (show GC _ _ _ _ _ (.cond _ _ _) _; first | refine gc_yes (h1 := ?_) | refine gc_no (h1 := ?_))))
    refine go_know (fun m H h => (h.valsA (v := u) (by exact Has.auto)).sl) (fun hsl => ?_)
    obtain ⟨hc1, hc2⟩ := slice_cells hsl
    refine go_is rfl (stp_bld (l := [(0, 1, u)]) (cs := [u, .int .i64 0]) rfl (by simp [fillL, hc1, hc2])) ?_
    refine go_newp rfl (stp_box (cs := [u, .int .i64 0]) rfl (by rw [AV.cells]) (by simp only [List.all_cons, List.all_nil, hc2]; rfl)) (fun id => ?_)
    (repeat (first | refine gst (hk := ?_) | (show GO _ _ _ _ _ (⟨some _, none, _⟩ :: _) _; first | refine go_op (hk := ?_) | (refine go_nw (hk := ?_); intro u; try simp only [llc, lln, lna, lza]) | (refine go_np (hk := ?_); intro id)) | (show GO _ _ _ _ _ (⟨none, none, _⟩ :: _) _; refine go_st (hk := ?_)) | (show GO _ _ _ _ _ (⟨_, some _, _⟩ :: _) _; first | refine go_in (hk := ?_) | refine go_out (hk := ?_) | refine go_void (hk := ?_)) | (show GK _ _ _ _ (blockK _ _ _); refine gk_past rfl ?_) | (show GC _ _ _ _ _ (.cond _ _ _) _; first | refine gc_yes (h1 := ?_) | refine gc_no (h1 := ?_))))
    refine gk_ret rfl fun H' hH => ⟨⟨id, u, bs.take 2000⟩, rfl, ⟨e3, fun i => ?_⟩, hH.sub (by exact Sub.auto)⟩
    have := hb i
    simp only [nth, List.getD_eq_getElem?_getD, List.getElem?_take] at this ⊢
    split
    · exact this
    · simp
  · (repeat (first | refine gst (hk := ?_) | (show GO _ _ _ _ _ (⟨some _, none, _⟩ :: _) _; first | refine go_op (hk := ?_) | (refine go_nw (hk := ?_); intro u; try simp only [llc, lln, lna, lza]) | (refine go_np (hk := ?_); intro id)) | (show GO _ _ _ _ _ (⟨none, none, _⟩ :: _) _; refine go_st (hk := ?_)) | (show GO _ _ _ _ _ (⟨_, some _, _⟩ :: _) _; first | refine go_in (hk := ?_) | refine go_out (hk := ?_) | refine go_void (hk := ?_)) | (show GK _ _ _ _ (blockK _ _ _); refine gk_past rfl ?_) | (show GC _ _ _ _ _ (.cond _ _ _) _; first | refine gc_yes (h1 := ?_) | refine gc_no (h1 := ?_))))
    refine go_know (fun m H h => (h.valsA (v := cv) (by exact Has.auto)).sl) (fun hsl => ?_)
    obtain ⟨hc1, hc2⟩ := slice_cells hsl
    refine go_is rfl (stp_bld (l := [(0, 1, cv)]) (cs := [cv, .int .i64 0]) rfl (by simp [fillL, hc1, hc2])) ?_
    refine go_newp rfl (stp_box (cs := [cv, .int .i64 0]) rfl (by rw [AV.cells]) (by simp only [List.all_cons, List.all_nil, hc2]; rfl)) (fun id => ?_)
    (repeat (first | refine gst (hk := ?_) | (show GO _ _ _ _ _ (⟨some _, none, _⟩ :: _) _; first | refine go_op (hk := ?_) | (refine go_nw (hk := ?_); intro u; try simp only [llc, lln, lna, lza]) | (refine go_np (hk := ?_); intro id)) | (show GO _ _ _ _ _ (⟨none, none, _⟩ :: _) _; refine go_st (hk := ?_)) | (show GO _ _ _ _ _ (⟨_, some _, _⟩ :: _) _; first | refine go_in (hk := ?_) | refine go_out (hk := ?_) | refine go_void (hk := ?_)) | (show GK _ _ _ _ (blockK _ _ _); refine gk_past rfl ?_) | (show GC _ _ _ _ _ (.cond _ _ _) _; first | refine gc_yes (h1 := ?_) | refine gc_no (h1 := ?_))))
    exact gk_ret rfl fun H' hH => ⟨⟨id, cv, bs⟩, rfl, ⟨by show bs.length ≤ 2000; omega, hb⟩, hH.sub (by exact Sub.auto)⟩

theorem sok_keep {A : Heap} {X : List Nat} {S S0 : Sig} {H H' : Heap} {c : Ch} {T : Sig} (h : SOk A X S H.size H) (hs : Sel S c S0) (hw : c.k.wr = true) (h1 : SOk H [] T H'.size H') (hT : ∀ d ∈ T, d.k.wr = true ∨ ∃ e ∈ S0, d.v.bid = e.v.bid) : SOk A X (T ++ [c]) H'.size H' := by
  have h2 := h.over h1
  have hc := (h.sel hs).ch c (by simp)
  have hap := hs.ap h.ap
  rw [List.pairwise_cons] at hap
  refine ⟨h2.le, h2.am, h2.mh, fun d hd => ?_, ?_⟩
  · rcases List.mem_append.1 hd with hd | hd
    · exact h2.ch d hd
    · simp only [List.mem_cons, List.not_mem_nil, or_false] at hd
      subst hd
      exact hc.mono h1.le.size fun k hk => h1.le.get k (hc.1 k hk) (by simp)
  · rw [List.pairwise_append]
    refine ⟨h2.ap, by simp, fun d hd e he => ?_⟩
    simp only [List.mem_cons, List.not_mem_nil, or_false] at he
    subst he
    intro _ k h3 h4
    rcases hT d hd with h5 | ⟨f, h5, h6⟩
    · rcases (h1.ch d hd).own h5 h3 with h7 | h7
      · have := hc.1 k h4; omega
      · simp at h7
    · exact hap.1 f h5 (.inl hw) k h4 (h6 ▸ h3)

theorem has_mem {S : Sig} {v : AV} {es n : Nat} {cs : List AV} (h : Has S v es n cs) : ∃ e ∈ S, e.v = v := by
  induction h with
  | ro => exact ⟨_, List.Mem.head _, rfl⟩
  | rw => exact ⟨_, List.Mem.head _, rfl⟩
  | tail h ih => obtain ⟨e, h1, h2⟩ := ih; exact ⟨e, List.Mem.tail _ h1, h2⟩

/-- the same, beside a cell of one's own -/
theorem newReaderC_ok {A : Heap} {X : List Nat} {S S0 : Sig} {H : Heap} {c : Ch} {cv : AV} {bs : List Int} (hS : SOk A X S H.size H) (hs : Sel S c S0) (hwr : c.k.wr = true) (hh : Has S0 cv 1 bs.length (bytesL bs)) (hb : ∀ i, 0 ≤ nth bs i ∧ nth bs i ≤ 255) (hl : bs.length ≤ 1048576) :
    ACalls Try.prog fn_spec_newReader [cv] H fun r H' => ∃ g : RG, r = .ptr g.id 0 ∧ SOk A X [rdr g.id g.v 0, byt g.v g.bs, c] H'.size H' ∧ ByteOk g.bs := by
  have hv := (hS.sel hs).valsA (.tail hh)
  suffices hq : ACalls Try.prog fn_spec_newReader [cv] H fun r H' => ∃ g : RG, r = .ptr g.id 0 ∧ ByteOk g.bs ∧ g.v.bid = cv.bid ∧ SOk H [] [rdr g.id g.v 0, byt g.v g.bs] H'.size H' by
    refine hq.mono ?_
    rintro r H' ⟨g, h1, h2, h4, h3⟩
    obtain ⟨e, he, hev⟩ := has_mem hh
    refine ⟨g, h1, sok_keep hS hs hwr h3 fun d hd => ?_, h2⟩
    rcases List.mem_cons.1 hd with rfl | hd
    · exact .inl rfl
    · simp only [List.mem_cons, List.not_mem_nil, or_false] at hd
      subst hd
      exact .inr ⟨e, he, by rw [hev]; exact h4⟩
  refine code_spec_newReader.go [byt cv bs] ⟨⟨rfl, hv⟩, trivial⟩ (by simp) ?_
  unfold mc_spec_newReader
  (repeat (first | refine gst (hk := ?_) | (show GO _ _ _ _ _ (⟨some _, none, _⟩ :: _) _; first | refine go_op (hk := ?_) | (refine go_nw (hk := ?_); intro u; try simp only [llc, lln, lna, lza]) | (refine go_np (hk := ?_); intro id)) | (show GO _ _ _ _ _ (⟨none, none, _⟩ :: _) _; refine go_st (hk := ?_)) | (show GO _ _ _ _ _ (⟨_, some _, _⟩ :: _) _; first | refine go_in (hk := ?_) | refine go_out (hk := ?_) | refine go_void (hk := ?_)) | (show GK _ _ _ _ (blockK _ _ _); refine gk_past rfl ?_) | (show GC _ _ _ _ _ (.cond _ _ _) _; first | refine gc_yes (h1 := ?_) | refine gc_no (h1 := ?_))))
  refine gc_cond rfl (fun h => ?_) (fun h => ?_)
  · (repeat (first | refine gst (hk := ?_) | (show GO _ _ _ _ _ (⟨some _, none, _⟩ :: _) _; first | refine go_op (hk := ?_) | (refine go_nw (hk := ?_); intro u; try simp only [llc, lln, lna, lza]) | (refine go_np (hk := ?_); intro id)) | (show GO _ _ _ _ _ (⟨none, none, _⟩ :: _) _; refine go_st (hk := ?_)) | (show GO _ _ _ _ _ (⟨_, some _, _⟩ :: _) _; first | refine go_in (hk := ?_) | refine go_out (hk := ?_) | refine go_void (hk := ?_)) | (show GK _ _ _ _ (blockK _ _ _); refine gk_past rfl ?_) | (show GC _ _ _ _ _ (.cond _ _ _) _; first | refine gc_yes (h1 := ?_) | refine gc_no (h1 := ?_))))
    refine go_step (stp_slb (l := 0) (h := 2000) rfl Sel.head (.inl ⟨rfl, rfl⟩) (.inr ⟨_, rfl, rfl⟩) ⟨by omega, by omega⟩) rfl (fun u S' hu => ?_)
    obtain ⟨hub, rfl⟩ := hu
    have e : ((bytesL bs).drop (0 * 1)).take ((2000 - 0) * 1) = bytesL (bs.take 2000) := by simp [bytesL, List.map_take]
    have e2 : 2000 - 0 = (bs.take 2000).length := by simp; omega
    have e3 : (bs.take 2000).length ≤ 2000 := by omega
    rw [e, e2]
    (repeat (first | refine gst (hk := ?_) | (show GO _ _ _ _ _ (⟨some _, none, _⟩ :: _) _; first | refine go_op (hk := ?_) | (refine go_nw (hk := ?_); intro u; try simp only [llc, lln, lna, lza]) | (refine go_np (hk := ?_); intro id)) | (show GO _ _ _ _ _ (⟨none, none, _⟩ :: _) _; refine go_st (hk := ?_)) | (show GO _ _ _ _ _ (⟨_, some _, _⟩ :: _) _; first | refine go_in (hk := ?_) | refine go_out (hk := ?_) | refine go_void (hk := ?_)) | (show GK _ _ _ _ (blockK _ _ _); refine gk_past rfl ?_) | (show GC _ _ _ _ _ (.cond _ _ _) _; first | refine gc_yes (h1 := ?_) | refine gc_no (h1 := ?_))))
    refine go_know (fun m H h => (h.valsA (v := u) (by exact Has.auto)).sl) (fun hsl => ?_)
    obtain ⟨hc1, hc2⟩ := slice_cells hsl
    refine go_is rfl (stp_bld (l := [(0, 1, u)]) (cs := [u, .int .i64 0]) rfl (by simp [fillL, hc1, hc2])) ?_
    refine go_newp rfl (stp_box (cs := [u, .int .i64 0]) rfl (by rw [AV.cells]) (by simp only [List.all_cons, List.all_nil, hc2]; rfl)) (fun id => ?_)
    (repeat (first | refine gst (hk := ?_) | (show GO _ _ _ _ _ (⟨some _, none, _⟩ :: _) _; first | refine go_op (hk := ?_) | (refine go_nw (hk := ?_); intro u; try simp only [llc, lln, lna, lza]) | (refine go_np (hk := ?_); intro id)) | (show GO _ _ _ _ _ (⟨none, none, _⟩ :: _) _; refine go_st (hk := ?_)) | (show GO _ _ _ _ _ (⟨_, some _, _⟩ :: _) _; first | refine go_in (hk := ?_) | refine go_out (hk := ?_) | refine go_void (hk := ?_)) | (show GK _ _ _ _ (blockK _ _ _); refine gk_past rfl ?_) | (show GC _ _ _ _ _ (.cond _ _ _) _; first | refine gc_yes (h1 := ?_) | refine gc_no (h1 := ?_))))
    refine gk_ret rfl fun H' hH => ⟨⟨id, u, bs.take 2000⟩, rfl, ⟨e3, fun i => ?_⟩, hub, hH.sub (by exact Sub.auto)⟩
    have := hb i
    simp only [nth, List.getD_eq_getElem?_getD, List.getElem?_take] at this ⊢
    split
    · exact this
    · simp
  · (repeat (first | refine gst (hk := ?_) | (show GO _ _ _ _ _ (⟨some _, none, _⟩ :: _) _; first | refine go_op (hk := ?_) | (refine go_nw (hk := ?_); intro u; try simp only [llc, lln, lna, lza]) | (refine go_np (hk := ?_); intro id)) | (show GO _ _ _ _ _ (⟨none, none, _⟩ :: _) _; refine go_st (hk := ?_)) | (show GO _ _ _ _ _ (⟨_, some _, _⟩ :: _) _; first | refine go_in (hk := ?_) | refine go_out (hk := ?_) | refine go_void (hk := ?_)) | (show GK _ _ _ _ (blockK _ _ _); refine gk_past rfl ?_) | (show GC _ _ _ _ _ (.cond _ _ _) _; first | refine gc_yes (h1 := ?_) | refine gc_no (h1 := ?_))))
    refine go_know (fun m H h => (h.valsA (v := cv) (by exact Has.auto)).sl) (fun hsl => ?_)
    obtain ⟨hc1, hc2⟩ := slice_cells hsl
    refine go_is rfl (stp_bld (l := [(0, 1, cv)]) (cs := [cv, .int .i64 0]) rfl (by simp [fillL, hc1, hc2])) ?_
    refine go_newp rfl (stp_box (cs := [cv, .int .i64 0]) rfl (by rw [AV.cells]) (by simp only [List.all_cons, List.all_nil, hc2]; rfl)) (fun id => ?_)
    (repeat (first | refine gst (hk := ?_) | (show GO _ _ _ _ _ (⟨some _, none, _⟩ :: _) _; first | refine go_op (hk := ?_) | (refine go_nw (hk := ?_); intro u; try simp only [llc, lln, lna, lza]) | (refine go_np (hk := ?_); intro id)) | (show GO _ _ _ _ _ (⟨none, none, _⟩ :: _) _; refine go_st (hk := ?_)) | (show GO _ _ _ _ _ (⟨_, some _, _⟩ :: _) _; first | refine go_in (hk := ?_) | refine go_out (hk := ?_) | refine go_void (hk := ?_)) | (show GK _ _ _ _ (blockK _ _ _); refine gk_past rfl ?_) | (show GC _ _ _ _ _ (.cond _ _ _) _; first | refine gc_yes (h1 := ?_) | refine gc_no (h1 := ?_))))
    exact gk_ret rfl fun H' hH => ⟨⟨id, cv, bs⟩, rfl, ⟨by show bs.length ≤ 2000; omega, hb⟩, rfl, hH.sub (by exact Sub.auto)⟩

def Bd (b : Int) (xs : List Int) : Prop := ∀ x ∈ xs, -b ≤ x ∧ x ≤ b

theorem Bd.nth {b : Int} {xs : List Int} (h : Bd b xs) (hb : 0 ≤ b) (i : Nat) : -b ≤ nth xs i ∧ nth xs i ≤ b := by
  by_cases hi : i < xs.length
  · exact h _ (nth_mem hi)
  · have : Rx.nth xs i = 0 := by simp [Rx.nth, Nat.le_of_not_lt hi]
    omega

theorem Bd.app {b : Int} {xs ys : List Int} (h : Bd b xs) (k : Bd b ys) : Bd b (xs ++ ys) := by
  intro x hx
  rcases List.mem_append.1 hx with hx | hx
  · exact h x hx
  · exact k x hx

theorem Bd.one {b x : Int} (h : -b ≤ x ∧ x ≤ b) : Bd b [x] := by
  intro y hy; simp only [List.mem_singleton] at hy; subst hy; exact h

structure D2 where
  u : AV
  v : AV
  xs : List Int
  ys : List Int
  q : Nat

def sumL : List Int → Int
  | [] => 0
  | x :: l => x + sumL l

def sumI (xs : List Int) : Nat → Int
  | 0 => 0
  | i + 1 => sumI xs i + nth xs i

theorem sumI_le {xs : List Int} {b : Int} (h : Bd b xs) (hb : 0 ≤ b) : ∀ i, -(b * i) ≤ sumI xs i ∧ sumI xs i ≤ b * i
  | 0 => by simp [sumI]
  | i + 1 => by
    have ih := sumI_le h hb i
    have hn := h.nth hb i
    have e : b * ((i + 1 : Nat) : Int) = b * i + b := by rw [Int.natCast_add, Int.mul_add]; simp
    rw [sumI, e]; omega

theorem sumI_cons (x : Int) (xs : List Int) : ∀ i, sumI (x :: xs) (i + 1) = x + sumI xs i
  | 0 => by simp [sumI, nth]
  | i + 1 => by
    rw [sumI, sumI_cons x xs i, sumI]
    have e1 : nth (x :: xs) (i + 1) = nth xs i := by simp [nth]
    rw [e1]; omega

theorem sumI_all : ∀ xs : List Int, sumI xs xs.length = sumL xs
  | [] => rfl
  | x :: xs => by rw [List.length_cons, sumI_cons, sumI_all, sumL]

theorem sumL_le {xs : List Int} {b : Int} (h : Bd b xs) (hb : 0 ≤ b) : -(b * xs.length) ≤ sumL xs ∧ sumL xs ≤ b * xs.length := by
  rw [← sumI_all]; exact sumI_le h hb _

theorem Data.bd {xs : List Int} (h : Data xs) : Bd 200 xs := by
  intro x hx
  obtain ⟨i, hi, rfl⟩ := List.getElem_of_mem hx
  have := h.2 i hi
  rw [nth_of hi] at this
  exact this

noncomputable instance (b : Int) (xs : List Int) : Decidable (Bd b xs) := Classical.propDecidable _

/-- the bits of the numbers above 0 -/
def Bits (l : List Int) (p : Nat) : Prop := ∀ j, p.testBit j = decide (j < l.length ∧ 0 < nth l j)

theorem Bits.lt {l : List Int} {p : Nat} (h : Bits l p) : p < 2 ^ l.length := by
  apply Nat.lt_pow_two_of_testBit
  intro i hi
  rw [h i]; simp; omega

theorem nth_app_lt {l : List Int} {x : Int} {j : Nat} (h : j < l.length) : nth (l ++ [x]) j = nth l j := by
  simp [nth, List.getElem?_append_left h]

theorem nth_app_eq {l : List Int} {x : Int} : nth (l ++ [x]) l.length = x := by simp [nth]

theorem Bits.no {l : List Int} {p : Nat} (h : Bits l p) {x : Int} (hx : ¬ 0 < x) : Bits (l ++ [x]) p := by
  intro j
  rw [h j]
  rcases Nat.lt_trichotomy j l.length with hj | rfl | hj
  · rw [nth_app_lt hj]
    have : j < (l ++ [x]).length := by simp; omega
    simp [hj]; omega
  · rw [nth_app_eq]; simp [hx]
  · have h2 : ¬ j < l.length := by omega
    simp [h2]; omega

theorem bytes_of {bs : List Int} (h : ∀ x ∈ bs, (Lit.int .u8 x).wf = true) (i : Nat) : 0 ≤ nth bs i ∧ nth bs i ≤ 255 := by
  by_cases hi : i < bs.length
  · have := h _ (nth_mem hi)
    simp [Lit.wf, IntKind.min, IntKind.max, IntKind.signed, IntKind.bits] at this
    omega
  · have : nth bs i = 0 := by simp [nth, Nat.le_of_not_lt hi]
    omega

/-- 2 for what is greater, 1 for the same -/
def vs (x y : Int) : Int := if y < x then 2 else if y = x then 1 else 0

/-- with the other signs -/
def negL (xs : List Int) : List Int := xs.map (- ·)

theorem negL_length (xs : List Int) : (negL xs).length = xs.length := by simp [negL]

theorem Data.app {xs ys : List Int} (h : Samples xs ys) : Data (xs ++ ys) := by
  obtain ⟨⟨h1, h2⟩, h3, h4, h5⟩ := h
  refine ⟨by simp; omega, fun i hi => ?_⟩
  by_cases h6 : i < xs.length
  · have : nth (xs ++ ys) i = nth xs i := by simp [nth, List.getElem?_append_left h6]
    rw [this]; exact h1.2 i h6
  · have : nth (xs ++ ys) i = nth ys (i - xs.length) := by simp [nth, List.getElem?_append_right (by omega : xs.length ≤ i)]
    rw [this]; exact h2.2 _ (by simp at hi; omega)

def Up (l : List Int) : Prop := l.Pairwise (· ≤ ·)

theorem Up.le {l : List Int} (h : Up l) {i j : Nat} (hij : i ≤ j) (hj : j < l.length) : nth l i ≤ nth l j := by
  rcases Nat.lt_or_ge i j with h1 | h1
  · rw [nth_of (by omega), nth_of hj]
    exact List.pairwise_iff_getElem.1 h i j (by omega) hj h1
  · have : i = j := by omega
    subst this; exact Int.le_refl _

theorem isNaN_ok {H : Heap} {n : Int} : ACalls Try.prog fn_cmp_isNaN_int [.int .i64 n] H fun r H' => r = .bool false ∧ H' = H := by
  refine ACalls.val ?_ rfl
  refine code_cmp_isNaN_int.go [] trivial (by simp) ?_
  unfold mc_cmp_isNaN_int
  (repeat (first | refine gst (hk := ?_) | (show GO _ _ _ _ _ (⟨some _, none, _⟩ :: _) _; first | refine go_op (hk := ?_) | (refine go_nw (hk := ?_); intro u; try simp only [llc, lln, lna, lza]) | (refine go_np (hk := ?_); intro id)) | (show GO _ _ _ _ _ (⟨none, none, _⟩ :: _) _; refine go_st (hk := ?_)) | (show GO _ _ _ _ _ (⟨_, some _, _⟩ :: _) _; first | refine go_in (hk := ?_) | refine go_out (hk := ?_) | refine go_void (hk := ?_)) | (show GK _ _ _ _ (blockK _ _ _); refine gk_past rfl ?_) | (show GC _ _ _ _ _ (.cond _ _ _) _; first | refine gc_yes (h1 := ?_) | refine gc_no (h1 := ?_))))
  exact gk_ret rfl fun H' hH => ⟨by simp [tupleOf], hH.leE⟩

theorem compare_ok {H : Heap} {m n : Int} : ACalls Try.prog fn_cmp_Compare_int [.int .i64 m, .int .i64 n] H fun r H' => r = .int .i64 (sgn (m - n)) ∧ H' = H := by
  refine ACalls.val ?_ rfl
  refine code_cmp_Compare_int.go [] trivial (by simp) ?_
  unfold mc_cmp_Compare_int
  (repeat (first | refine gst (hk := ?_) | (show GO _ _ _ _ _ (⟨some _, none, .call _ _⟩ :: _) _; first | (refine go_callp rfl code_cmp_isNaN_int.callable (fun H hH => isNaN_ok) ?_)) | (show GO _ _ _ _ _ (⟨some _, none, _⟩ :: _) _; first | refine go_op (hk := ?_) | (refine go_nw (hk := ?_); intro u; try simp only [llc, lln, lna, lza]) | (refine go_np (hk := ?_); intro id)) | (show GO _ _ _ _ _ (⟨none, none, _⟩ :: _) _; refine go_st (hk := ?_)) | (show GO _ _ _ _ _ (⟨_, some _, _⟩ :: _) _; first | refine go_in (hk := ?_) | refine go_out (hk := ?_) | refine go_void (hk := ?_)) | (show GK _ _ _ _ (blockK _ _ _); refine gk_past rfl ?_) | (show GC _ _ _ _ _ (.cond _ _ _) _; first | refine gc_yes (h1 := ?_) | refine gc_no (h1 := ?_))))
  refine gc_cond rfl (fun h1 => ?_) (fun h1 => ?_)
  · (repeat (first | refine gst (hk := ?_) | (show GO _ _ _ _ _ (⟨some _, none, .call _ _⟩ :: _) _; first | (refine go_callp rfl code_cmp_isNaN_int.callable (fun H hH => isNaN_ok) ?_)) | (show GO _ _ _ _ _ (⟨some _, none, _⟩ :: _) _; first | refine go_op (hk := ?_) | (refine go_nw (hk := ?_); intro u; try simp only [llc, lln, lna, lza]) | (refine go_np (hk := ?_); intro id)) | (show GO _ _ _ _ _ (⟨none, none, _⟩ :: _) _; refine go_st (hk := ?_)) | (show GO _ _ _ _ _ (⟨_, some _, _⟩ :: _) _; first | refine go_in (hk := ?_) | refine go_out (hk := ?_) | refine go_void (hk := ?_)) | (show GK _ _ _ _ (blockK _ _ _); refine gk_past rfl ?_) | (show GC _ _ _ _ _ (.cond _ _ _) _; first | refine gc_yes (h1 := ?_) | refine gc_no (h1 := ?_))))
    refine gk_ret rfl fun H' hH => ⟨?_, hH.leE⟩
    unfold sgn; rw [if_neg (by omega), if_pos (by omega)]; rfl
  (repeat (first | refine gst (hk := ?_) | (show GO _ _ _ _ _ (⟨some _, none, .call _ _⟩ :: _) _; first | (refine go_callp rfl code_cmp_isNaN_int.callable (fun H hH => isNaN_ok) ?_)) | (show GO _ _ _ _ _ (⟨some _, none, _⟩ :: _) _; first | refine go_op (hk := ?_) | (refine go_nw (hk := ?_); intro u; try simp only [llc, lln, lna, lza]) | (refine go_np (hk := ?_); intro id)) | (show GO _ _ _ _ _ (⟨none, none, _⟩ :: _) _; refine go_st (hk := ?_)) | (show GO _ _ _ _ _ (⟨_, some _, _⟩ :: _) _; first | refine go_in (hk := ?_) | refine go_out (hk := ?_) | refine go_void (hk := ?_)) | (show GK _ _ _ _ (blockK _ _ _); refine gk_past rfl ?_) | (show GC _ _ _ _ _ (.cond _ _ _) _; first | refine gc_yes (h1 := ?_) | refine gc_no (h1 := ?_))))
  refine gc_cond rfl (fun h2 => ?_) (fun h2 => ?_)
  · (repeat (first | refine gst (hk := ?_) | (show GO _ _ _ _ _ (⟨some _, none, .call _ _⟩ :: _) _; first | (refine go_callp rfl code_cmp_isNaN_int.callable (fun H hH => isNaN_ok) ?_)) | (show GO _ _ _ _ _ (⟨some _, none, _⟩ :: _) _; first | refine go_op (hk := ?_) | (refine go_nw (hk := ?_); intro u; try simp only [llc, lln, lna, lza]) | (refine go_np (hk := ?_); intro id)) | (show GO _ _ _ _ _ (⟨none, none, _⟩ :: _) _; refine go_st (hk := ?_)) | (show GO _ _ _ _ _ (⟨_, some _, _⟩ :: _) _; first | refine go_in (hk := ?_) | refine go_out (hk := ?_) | refine go_void (hk := ?_)) | (show GK _ _ _ _ (blockK _ _ _); refine gk_past rfl ?_) | (show GC _ _ _ _ _ (.cond _ _ _) _; first | refine gc_yes (h1 := ?_) | refine gc_no (h1 := ?_))))
    refine gk_ret rfl fun H' hH => ⟨?_, hH.leE⟩
    unfold sgn; rw [if_pos (by omega)]; rfl
  (repeat (first | refine gst (hk := ?_) | (show GO _ _ _ _ _ (⟨some _, none, .call _ _⟩ :: _) _; first | (refine go_callp rfl code_cmp_isNaN_int.callable (fun H hH => isNaN_ok) ?_)) | (show GO _ _ _ _ _ (⟨some _, none, _⟩ :: _) _; first | refine go_op (hk := ?_) | (refine go_nw (hk := ?_); intro u; try simp only [llc, lln, lna, lza]) | (refine go_np (hk := ?_); intro id)) | (show GO _ _ _ _ _ (⟨none, none, _⟩ :: _) _; refine go_st (hk := ?_)) | (show GO _ _ _ _ _ (⟨_, some _, _⟩ :: _) _; first | refine go_in (hk := ?_) | refine go_out (hk := ?_) | refine go_void (hk := ?_)) | (show GK _ _ _ _ (blockK _ _ _); refine gk_past rfl ?_) | (show GC _ _ _ _ _ (.cond _ _ _) _; first | refine gc_yes (h1 := ?_) | refine gc_no (h1 := ?_))))
  refine gk_ret rfl fun H' hH => ⟨?_, hH.leE⟩
  unfold sgn; rw [if_neg (by omega), if_neg (by omega)]; rfl

def qtCmp (f : FuncId) (args : List AV) : Option AV :=
  if f = fn_cmp_Compare_int then match args with
    | [.int .i64 m, .int .i64 n] => some (.int .i64 (sgn (m - n)))
    | _ => none
  else none

theorem qtCmp_is {m n : Int} : qtCmp fn_cmp_Compare_int [.int .i64 m, .int .i64 n] = some (.int .i64 (sgn (m - n))) := rfl

structure F4 where
  a : Int
  b : Int
  c : Int
  d : Int

abbrev F4.v (g : F4) : AV := .agg [.int .i64 g.a, .int .i64 g.b, .int .i64 g.c, .int .i64 g.d]

abbrev F4.ok (g : F4) : Prop := (0 ≤ g.a ∧ g.a ≤ 5) ∧ (-1 ≤ g.b ∧ (g.b ≤ 5 ∨ g.b = 9)) ∧ (0 ≤ g.c ∧ g.c ≤ 5) ∧ (0 ≤ g.d ∧ g.d ≤ 8)

theorem sub_refl : ∀ S : Sig, Sub S S
  | [] => .nil
  | c :: S => .cons .head (sub_refl S)

theorem slice_cells {H : Heap} {a : AV} {xs : List Int} (h : Ints H a xs) : a.cells = [a] ∧ a.one = true := by
  have := h.sl
  cases a <;> simp [AV.isSlice] at this <;> exact ⟨rfl, rfl⟩

theorem Samples.swap {xs ys : List Int} (h : Samples xs ys) : Samples ys xs := ⟨⟨h.1.2, h.1.1⟩, by have := h.2; omega, by have := h.2; omega, by have := h.2; omega⟩

def zs (L : List Nat) : List Int := L.map fun (n : Nat) => (n : Int)

theorem sub_drop {c : Ch} {S S' : Sig} (h : Sub S S') : Sub (c :: S) S' := by
  induction h generalizing c with
  | nil => exact .nil
  | cons h h' ih => exact .cons (.tail h) ih

/-- a slice of one value, a slice of none -/
theorem stp_bslv {A : Heap} {X : List Nat} {E : List (Nat × AV)} {S : Sig} {x : MX} {z u : AV} (hx : evE E x = some u) (h1 : u.cells = [u]) (h2 : u.one = true) : Stp A X E S (.bsl 1 1 [z] [(0, x)]) (New fun v => ⟨.rw, v, 1, 1, [u]⟩ :: S) := by
  refine ⟨?_⟩
  intro τ H m nid hE hS hm
  have hs := Heap.lt_new H nid (some ⟨true, [u]⟩)
  refine ⟨.slice nid 0 1 none 1, _, H.new nid (some ⟨true, [u]⟩), nid + 1, rfl, ?_, ?_, by omega, Nat.le_refl _, Heap.size_le_new _ _ _⟩
  · simp only [mstep, List.map_cons, List.map_nil, ev_of hE hx]
    have e : fillL (zrep [z] (1 * 1)) [(0 * 1, 1, u)] = some [u] := by simp [fillL, zrep, h1, h2, List.range_succ]
    rw [e]
  · refine hS.add ?_ (by omega) hs ⟨?_, rfl, .inr ⟨nid, rfl, .inl (by have := hS.am; omega), by simp [Heap.get_new]⟩⟩ ?_
    · intro id hid; rw [Heap.get_new, if_neg (by omega)]
    · intro k hk; simp only [AV.bid, Option.some.injEq] at hk; omega
    · intro k hk; simp only [AV.bid, Option.some.injEq] at hk; omega

theorem stp_bsl0 {A : Heap} {X : List Nat} {E : List (Nat × AV)} {S : Sig} {es : Nat} {z : List AV} : Stp A X E S (.bsl 0 es z []) (New fun v => ⟨.rw, v, es, 0, []⟩ :: S) := by
  refine ⟨?_⟩
  intro τ H m nid hE hS hm
  have hs := Heap.lt_new H nid (some ⟨true, []⟩)
  refine ⟨.slice nid 0 0 none es, _, H.new nid (some ⟨true, []⟩), nid + 1, rfl, ?_, ?_, by omega, Nat.le_refl _, Heap.size_le_new _ _ _⟩
  · simp [mstep, fillL, zrep]
  · refine hS.add ?_ (by omega) hs ⟨?_, by simp, .inr ⟨nid, rfl, .inl (by have := hS.am; omega), by simp [Heap.get_new]⟩⟩ ?_
    · intro id hid; rw [Heap.get_new, if_neg (by omega)]
    · intro k hk; simp only [AV.bid, Option.some.injEq] at hk; omega
    · intro k hk; simp only [AV.bid, Option.some.injEq] at hk; omega

def SumsOk (xs : List Int) : Prop := (∀ i, i < xs.length → 0 ≤ nth xs i ∧ nth xs i ≤ 6) ∧ 1 ≤ xs.length ∧ xs.length ≤ 3

noncomputable instance (xs : List Int) : Decidable (SumsOk xs) := Classical.propDecidable _

abbrev TabOk (xs ys : List Int) : Prop := (SumsOk xs ∧ SumsOk ys) ∧ sumL xs = sumL ys

def B4 (xs : List Int) : Prop := ∀ x ∈ xs, 0 ≤ x ∧ x ≤ 4

theorem B4.app {xs ys : List Int} (h : B4 xs) (k : B4 ys) : B4 (xs ++ ys) := by
  intro x hx
  rcases List.mem_append.1 hx with hx | hx
  · exact h x hx
  · exact k x hx

theorem B4.bd {xs : List Int} (h : B4 xs) : Bd 1000000 xs := fun x hx => by have := h x hx; omega

theorem Bd.set {b y : Int} {xs : List Int} {i : Nat} (h : Bd b xs) (hy : -b ≤ y ∧ y ≤ b) : Bd b (xs.set i y) := by
  intro x hx
  rcases List.mem_or_eq_of_mem_set hx with hx | rfl
  · exact h x hx
  · exact hy

theorem TabOk.swap {xs ys : List Int} (h : TabOk xs ys) : TabOk ys xs := ⟨⟨h.1.2, h.1.1⟩, h.2.symm⟩

structure P2 where
  a : Int
  b : Int

abbrev P2.v (g : P2) : AV := .tuple [.int .i64 g.a, .int .i64 g.b]

abbrev P2.lev (g : P2) : Prop := (0 ≤ g.a ∧ g.a ≤ 102) ∧ 0 ≤ g.b ∧ g.b ≤ 101

structure N4 where
  n : Int
  k : Int
  u : Int
  v : Int

abbrev N4.v' (g : N4) : AV := .tuple [.int .i64 g.n, .int .i64 g.k, .int .i64 g.u, .int .i64 g.v]

abbrev N4.ok (g : N4) : Prop := (0 ≤ g.n ∧ g.n ≤ 11) ∧ (-1 ≤ g.k ∧ g.k ≤ 11) ∧ (0 ≤ g.u ∧ g.u ≤ 14) ∧ (0 ≤ g.v ∧ g.v ≤ 13)

structure N3 where
  n : Int
  a : Int
  b : Int

abbrev N3.v (g : N3) : AV := .tuple [.int .i64 g.n, .int .i64 g.a, .int .i64 g.b]

abbrev N3.ok (g : N3) : Prop := (0 ≤ g.n ∧ g.n ≤ 11) ∧ (0 ≤ g.a ∧ g.a ≤ 102) ∧ 0 ≤ g.b ∧ g.b ≤ 101

structure N5 where
  n : Int
  k : Int
  v : Int
  a : Int
  b : Int

abbrev N5.v' (g : N5) : AV := .tuple [.int .i64 g.n, .int .i64 g.k, .int .i64 g.v, .int .i64 g.a, .int .i64 g.b]

abbrev N5.ok (g : N5) : Prop := (0 ≤ g.n ∧ g.n ≤ 11) ∧ (-1 ≤ g.k ∧ g.k ≤ 12) ∧ (0 ≤ g.v ∧ g.v ≤ 12) ∧ (0 ≤ g.a ∧ g.a ≤ 102) ∧ 0 ≤ g.b ∧ g.b ≤ 101

def qtTab : List (FuncId × (List AV → Option AV)) → FuncId → List AV → Option AV
  | [], _, _ => none
  | (g, d) :: r, f, args => if f = g then d args else qtTab r f args

abbrev FamOk (P : Program) (H : Heap) (f : FuncId) (d : List AV → Option AV) : Prop := ∀ args v, d args = some v → Callable P f ∧ ACalls P f args H fun r H' => r = v ∧ H' = H

theorem qtTab_nil {P : Program} {H : Heap} : QtOk P (qtTab []) H := fun f args r h => by simp [qtTab] at h

theorem qtTab_cons {P : Program} {H : Heap} {g : FuncId} {d : List AV → Option AV} {r : List (FuncId × (List AV → Option AV))} (h : FamOk P H g d) (hr : QtOk P (qtTab r) H) : QtOk P (qtTab ((g, d) :: r)) H := by
  intro f args v hv
  simp only [qtTab] at hv
  split at hv
  · rename_i e; subst e; exact h args v hv
  · exact hr f args v hv

def tabZ (n : Nat) (f : Nat → Int) : List Int := (List.range n).map f

theorem tabZ_len (n : Nat) (f : Nat → Int) : (tabZ n f).length = n := by simp [tabZ]

structure GK5 where
  u : AV
  xs : List Int
  lev : Int
  kd : List UInt8

abbrev GK5.v (g : GK5) : AV := .tuple [g.u, .int .i64 g.lev, .str g.kd]

def keyZ (xs : List Int) (i : Int) : Int := nth xs i.toNat

def bef (K : Int → Int) (a b : Int) : Prop := K a < K b ∨ (K a = K b ∧ a < b)

def idxL (n : Nat) : List Int := tabZ n fun i => (i : Int)

theorem idxL_len (n : Nat) : (idxL n).length = n := tabZ_len _ _

def BySize (xs : List Int) (n : Nat) (ys : List Int) : Prop := ys.Perm (idxL n) ∧ ys.Pairwise (bef (keyZ xs))

theorem BySize.len {xs : List Int} {n : Nat} {ys : List Int} (h : BySize xs n ys) : ys.length = n := by rw [h.1.length_eq, idxL_len]

inductive Way | all | down | up | share

def Way.val : Way → Int → Int → Int → Int
  | .all, x, n, _ => x * n
  | .down, x, n, p => x * (n - p)
  | .up, x, n, p => x * (n - p)
  | .share, x, n, p => (x * n + p) / (p + 1)

theorem nth_ex {l : List Int} {v : Int} (h : v ∈ l) : ∃ m, m < l.length ∧ nth l m = v := by
  obtain ⟨m, h1, h2⟩ := List.getElem_of_mem h
  exact ⟨m, h1, by rw [nth_of h1]; exact h2⟩

theorem chRo {A : Heap} {X : List Nat} {H : Heap} {v : AV} {es n : Nat} {cs : List AV} (h : Vals H v es n cs) : ChOk A X H.size H ⟨.ro, v, es, n, cs⟩ := ⟨h.bid, h.sl, h.len, h.esn, h.cells, h.row⟩

def DrOk (p : List Int × List Int) (B : Nat) : Prop := p.2.length = p.1.length ∧ p.1.length ≤ B ∧ ∀ x ∈ p.2, 0 ≤ x ∧ x ≤ (B : Int)

theorem DrOk.mono {p : List Int × List Int} {B C : Nat} (h : DrOk p B) (hc : B ≤ C) : DrOk p C := ⟨h.1, by have := h.2.1; omega, fun x hx => by have := h.2.2 x hx; omega⟩

def FD (q : Rat) (D B : Int) : Prop := 0 < D ∧ ∃ k : Int, q * (D : Rat) = (k : Rat) ∧ -B ≤ k ∧ k ≤ B

theorem rat_inj {a b : Int} (h : (a : Rat) = (b : Rat)) : a = b := by
  have := congrArg Rat.num h
  simpa using this

theorem rat_nd (q : Rat) : q * ((q.den : Int) : Rat) = (q.num : Rat) := by
  have h := Rat.num_divInt_den q
  rw [Rat.divInt_eq_div] at h
  have hd : ((q.den : Int) : Rat) ≠ 0 := by
    intro h0
    have := rat_inj (a := q.den) (b := 0) h0
    have := q.den_nz
    omega
  have h1 := Rat.div_mul_cancel (a := (q.num : Rat)) hd
  rw [h] at h1
  exact h1

theorem rat_ne {a : Int} (h : a ≠ 0) : (a : Rat) ≠ 0 := fun h0 => h (rat_inj h0)

theorem FD.eqn {q : Rat} {D k : Int} (h : q * (D : Rat) = (k : Rat)) : q.num * D = k * q.den := by
  have h2 := rat_nd q
  have : ((q.num * D : Int) : Rat) = ((k * (q.den : Int) : Int) : Rat) := by
    rw [Rat.intCast_mul, Rat.intCast_mul, ← h, ← h2]; grind
  exact rat_inj this

theorem den_pos (q : Rat) : 1 ≤ (q.den : Int) := by have := q.den_nz; omega

theorem FD.dvd {q : Rat} {D B : Int} (h : FD q D B) : ∃ m : Int, 0 < m ∧ D = q.den * m ∧ -B ≤ q.num * m ∧ q.num * m ≤ B := by
  obtain ⟨hD, k, h1, h2, h3⟩ := h
  have he := FD.eqn h1
  have hd := den_pos q
  have hdv : (q.den : Int) ∣ D := by
    have h4 : (q.den : Int) ∣ q.num * D := ⟨k, by rw [he, Int.mul_comm]⟩
    have h5 : q.den ∣ q.num.natAbs * D.natAbs := by
      have := Int.natAbs_dvd_natAbs.2 h4
      rwa [Int.natAbs_mul, Int.natAbs_natCast] at this
    have h6 : q.den ∣ D.natAbs := (Nat.Coprime.symm q.reduced).dvd_of_dvd_mul_left h5
    exact Int.ofNat_dvd_left.2 h6
  obtain ⟨m, hm⟩ := hdv
  have hm0 : 0 < m := by
    rcases Int.lt_or_le 0 m with h5 | h5
    · exact h5
    · have := Int.mul_nonpos_of_nonneg_of_nonpos (a := (q.den : Int)) (b := m) (by omega) h5
      omega
  refine ⟨m, hm0, hm, ?_⟩
  have : q.num * m = k := by
    rw [hm] at he
    have h6 : (q.den : Int) * (q.num * m) = q.den * k := by rw [← Int.mul_assoc, Int.mul_comm (q.den : Int) q.num, Int.mul_assoc, he, Int.mul_comm]
    exact Int.eq_of_mul_eq_mul_left (by omega) h6
  omega

theorem mul_le_self {a m B : Int} (hm : 0 < m) (h : -B ≤ a * m ∧ a * m ≤ B) : -B ≤ a ∧ a ≤ B := by
  rcases Int.lt_or_le a 0 with h0 | h0
  · have := Int.mul_le_mul_of_nonneg_left (a := 1) (b := m) (c := -a) (by omega) (by omega)
    simp only [Int.neg_mul] at this
    omega
  · have := Int.mul_le_mul_of_nonneg_left (a := 1) (b := m) (c := a) (by omega) h0
    omega

theorem FD.nd {q : Rat} {D B : Int} (h : FD q D B) : (-B ≤ q.num ∧ q.num ≤ B) ∧ 1 ≤ (q.den : Int) ∧ (q.den : Int) ≤ D := by
  obtain ⟨m, h1, h2, h3⟩ := h.dvd
  have hd := den_pos q
  refine ⟨mul_le_self h1 h3, hd, ?_⟩
  have := Int.mul_le_mul_of_nonneg_left (a := 1) (b := m) (c := (q.den : Int)) (by omega) (by omega)
  omega

theorem FD.add {a b : Rat} {D A B : Int} (h : FD a D A) (h' : FD b D B) : FD (a + b) D (A + B) := by
  obtain ⟨hD, k, h1, h2, h3⟩ := h
  obtain ⟨_, l, h4, h5, h6⟩ := h'
  exact ⟨hD, k + l, by rw [Rat.intCast_add, ← h1, ← h4]; grind, by omega, by omega⟩

theorem FD.neg {a : Rat} {D A : Int} (h : FD a D A) : FD (-a) D A := by
  obtain ⟨hD, k, h1, h2, h3⟩ := h
  exact ⟨hD, -k, by rw [Rat.intCast_neg, ← h1]; grind, by omega, by omega⟩

theorem FD.sub {a b : Rat} {D A B : Int} (h : FD a D A) (h' : FD b D B) : FD (a - b) D (A + B) := by
  have := h.add h'.neg
  rwa [← Rat.sub_eq_add_neg] at this

theorem absmul {k l A B : Int} (h2 : -A ≤ k) (h3 : k ≤ A) (h5 : -B ≤ l) (h6 : l ≤ B) : -(A * B) ≤ k * l ∧ k * l ≤ A * B := by
  have hk : k.natAbs ≤ A.natAbs := by omega
  have hl : l.natAbs ≤ B.natAbs := by omega
  have h := Nat.mul_le_mul hk hl
  rw [← Int.natAbs_mul, ← Int.natAbs_mul] at h
  have h0 : 0 ≤ A * B := Int.mul_nonneg (by omega) (by omega)
  omega

theorem FD.mul {a b : Rat} {D E A B : Int} (h : FD a D A) (h' : FD b E B) : FD (a * b) (D * E) (A * B) := by
  obtain ⟨hD, k, h1, h2, h3⟩ := h
  obtain ⟨hE, l, h4, h5, h6⟩ := h'
  have := absmul h2 h3 h5 h6
  exact ⟨Int.mul_pos hD hE, k * l, by rw [Rat.intCast_mul, Rat.intCast_mul, ← h1, ← h4]; grind, this.1, this.2⟩

theorem FD.lift {a : Rat} {D A m : Int} (h : FD a D A) (hm : 0 < m) : FD a (D * m) (A * m) := by
  obtain ⟨hD, k, h1, h2, h3⟩ := h
  have hA : 0 ≤ A := by omega
  have := absmul h2 h3 (l := m) (B := m) (by omega) (by omega)
  exact ⟨Int.mul_pos hD hm, k * m, by rw [Rat.intCast_mul, Rat.intCast_mul, ← h1]; grind, this.1, this.2⟩

theorem FD.int {n B : Int} (h : -B ≤ n ∧ n ≤ B) : FD (n : Rat) 1 B := ⟨by omega, n, by simp, h.1, h.2⟩

theorem FD.mono {a : Rat} {D A B : Int} (h : FD a D A) (hb : A ≤ B) : FD a D B := by
  obtain ⟨hD, k, h1, h2, h3⟩ := h
  exact ⟨hD, k, h1, by omega, by omega⟩

theorem FD.div {n d B : Int} (hd : 0 < d) (h : -B ≤ n ∧ n ≤ B) : FD ((n : Rat) / (d : Rat)) d B := ⟨hd, n, Rat.div_mul_cancel (rat_ne (by omega)), h.1, h.2⟩

theorem FD.to {a : Rat} {D A D' : Int} (h : FD a D A) (hd : D = D') : FD a D' A := hd ▸ h

def sumR (f : Nat → Rat) : Nat → Rat
  | 0 => 0
  | n + 1 => sumR f n + f n

theorem sumR_congr {f g : Nat → Rat} : ∀ {n : Nat}, (∀ i, i < n → f i = g i) → sumR f n = sumR g n
  | 0, _ => rfl
  | n + 1, h => by rw [sumR, sumR, sumR_congr (fun i hi => h i (by omega)), h n (by omega)]

def hiR (f : Nat → Rat) : Nat → Rat
  | 0 => f 0
  | k + 1 => if hiR f k < f (k + 1) then f (k + 1) else hiR f k

def loR (f : Nat → Rat) : Nat → Rat
  | 0 => f 0
  | k + 1 => if f (k + 1) < loR f k then f (k + 1) else loR f k

theorem hiR_is (f : Nat → Rat) : ∀ k, (∀ j, j ≤ k → f j ≤ hiR f k) ∧ ∃ j, j ≤ k ∧ hiR f k = f j
  | 0 => ⟨fun j hj => by rw [show j = 0 by omega]; exact Rat.le_refl, 0, Nat.le_refl _, rfl⟩
  | k + 1 => by
    obtain ⟨h1, j, h2, h3⟩ := hiR_is f k
    rw [hiR]
    split
    · rename_i h
      refine ⟨fun i hi => ?_, k + 1, Nat.le_refl _, rfl⟩
      rcases Nat.lt_or_ge k i with h4 | h4
      · rw [show i = k + 1 by omega]; exact Rat.le_refl
      · have := h1 i h4; grind
    · rename_i h
      refine ⟨fun i hi => ?_, j, by omega, h3⟩
      rcases Nat.lt_or_ge k i with h4 | h4
      · rw [show i = k + 1 by omega]; exact Rat.not_lt.1 h
      · exact h1 i h4

theorem loR_is (f : Nat → Rat) : ∀ k, (∀ j, j ≤ k → loR f k ≤ f j) ∧ ∃ j, j ≤ k ∧ loR f k = f j
  | 0 => ⟨fun j hj => by rw [show j = 0 by omega]; exact Rat.le_refl, 0, Nat.le_refl _, rfl⟩
  | k + 1 => by
    obtain ⟨h1, j, h2, h3⟩ := loR_is f k
    rw [loR]
    split
    · rename_i h
      refine ⟨fun i hi => ?_, k + 1, Nat.le_refl _, rfl⟩
      rcases Nat.lt_or_ge k i with h4 | h4
      · rw [show i = k + 1 by omega]; exact Rat.le_refl
      · have := h1 i h4; grind
    · rename_i h
      refine ⟨fun i hi => ?_, j, by omega, h3⟩
      rcases Nat.lt_or_ge k i with h4 | h4
      · rw [show i = k + 1 by omega]; exact Rat.not_lt.1 h
      · exact h1 i h4

def frV (q : Rat) : AV := .agg [.int .i64 q.num, .int .i64 (q.den : Int)]

theorem tmod_gcd (a b : Int) : Int.gcd b (a.tmod b) = Int.gcd a b := by
  unfold Int.gcd
  rw [Int.natAbs_tmod, Nat.gcd_comm a.natAbs, Nat.gcd_rec b.natAbs a.natAbs, Nat.gcd_comm]

theorem gcd_ok {H : Heap} {a b : Int} (ha : -4611686018427387904 ≤ a ∧ a ≤ 4611686018427387904) (hb : -4611686018427387904 ≤ b ∧ b ≤ 4611686018427387904) :
    ACalls Try.prog fn_spec_gcd [.int .i64 a, .int .i64 b] H fun r H' => r = .int .i64 (Int.gcd a b : Nat) ∧ H' = H := by
  refine ACalls.val ?_ rfl
  refine code_spec_gcd.go [] trivial (by simp) ?_
  unfold mc_spec_gcd
  (repeat (first | refine gst (hk := ?_) | (show GO _ _ _ _ _ (⟨some _, none, _⟩ :: _) _; first | refine go_op (hk := ?_) | (refine go_nw (hk := ?_); intro u; try simp only [llc, lln, lna, lza]) | (refine go_np (hk := ?_); intro id)) | (show GO _ _ _ _ _ (⟨none, none, _⟩ :: _) _; refine go_st (hk := ?_)) | (show GO _ _ _ _ _ (⟨_, some _, _⟩ :: _) _; first | refine go_in (hk := ?_) | refine go_out (hk := ?_) | refine go_void (hk := ?_)) | (show GK _ _ _ _ (blockK _ _ _); refine gk_past rfl ?_) | (show GC _ _ _ _ _ (.cond _ _ _) _; first | refine gc_yes (h1 := ?_) | refine gc_no (h1 := ?_))))
  refine gc_loop (γ := Int × Int) (fun t => [(0, .int .i64 t.1), (1, .int .i64 t.2)]) (fun _ => []) (fun t => Int.gcd t.1 t.2 = Int.gcd a b ∧ (-4611686018427387904 ≤ t.1 ∧ t.1 ≤ 4611686018427387904) ∧ (-4611686018427387904 ≤ t.2 ∧ t.2 ≤ 4611686018427387904)) (fun t => t.2.natAbs) (a, b) ⟨rfl, ha, hb⟩ (hb := ?_)
  rintro ⟨x, y⟩ ⟨h1, h2, h3⟩ I ν m hk
  simp only at h1 h2 h3 hk ⊢
  (repeat (first | refine gst (hk := ?_) | (show GO _ _ _ _ _ (⟨some _, none, _⟩ :: _) _; first | refine go_op (hk := ?_) | (refine go_nw (hk := ?_); intro u; try simp only [llc, lln, lna, lza]) | (refine go_np (hk := ?_); intro id)) | (show GO _ _ _ _ _ (⟨none, none, _⟩ :: _) _; refine go_st (hk := ?_)) | (show GO _ _ _ _ _ (⟨_, some _, _⟩ :: _) _; first | refine go_in (hk := ?_) | refine go_out (hk := ?_) | refine go_void (hk := ?_)) | (show GK _ _ _ _ (blockK _ _ _); refine gk_past rfl ?_) | (show GC _ _ _ _ _ (.cond _ _ _) _; first | refine gc_yes (h1 := ?_) | refine gc_no (h1 := ?_))))
  refine gc_cond rfl (fun h => ?_) (fun h => ?_)
  · have h4 : (x.tmod y).natAbs < y.natAbs := by
      rw [Int.natAbs_tmod]; exact Nat.mod_lt _ (by omega)
    (repeat (first | refine gst (hk := ?_) | (show GO _ _ _ _ _ (⟨some _, none, _⟩ :: _) _; first | refine go_op (hk := ?_) | (refine go_nw (hk := ?_); intro u; try simp only [llc, lln, lna, lza]) | (refine go_np (hk := ?_); intro id)) | (show GO _ _ _ _ _ (⟨none, none, _⟩ :: _) _; refine go_st (hk := ?_)) | (show GO _ _ _ _ _ (⟨_, some _, _⟩ :: _) _; first | refine go_in (hk := ?_) | refine go_out (hk := ?_) | refine go_void (hk := ?_)) | (show GK _ _ _ _ (blockK _ _ _); refine gk_past rfl ?_) | (show GC _ _ _ _ _ (.cond _ _ _) _; first | refine gc_yes (h1 := ?_) | refine gc_no (h1 := ?_))))
    refine go_is rfl (stp_rem rfl rfl h) ?_
    (repeat (first | refine gst (hk := ?_) | (show GO _ _ _ _ _ (⟨some _, none, _⟩ :: _) _; first | refine go_op (hk := ?_) | (refine go_nw (hk := ?_); intro u; try simp only [llc, lln, lna, lza]) | (refine go_np (hk := ?_); intro id)) | (show GO _ _ _ _ _ (⟨none, none, _⟩ :: _) _; refine go_st (hk := ?_)) | (show GO _ _ _ _ _ (⟨_, some _, _⟩ :: _) _; first | refine go_in (hk := ?_) | refine go_out (hk := ?_) | refine go_void (hk := ?_)) | (show GK _ _ _ _ (blockK _ _ _); refine gk_past rfl ?_) | (show GC _ _ _ _ _ (.cond _ _ _) _; first | refine gc_yes (h1 := ?_) | refine gc_no (h1 := ?_))))
    exact gk_next (hk (y, x.tmod y) ⟨by rw [tmod_gcd]; exact h1, h3, by simp only; omega⟩ h4)
  · have hy : y = 0 := by omega
    subst hy
    have e : (Int.gcd a b : Nat) = x.natAbs := by rw [← h1]; simp [Int.gcd]
    (repeat (first | refine gst (hk := ?_) | (show GO _ _ _ _ _ (⟨some _, none, _⟩ :: _) _; first | refine go_op (hk := ?_) | (refine go_nw (hk := ?_); intro u; try simp only [llc, lln, lna, lza]) | (refine go_np (hk := ?_); intro id)) | (show GO _ _ _ _ _ (⟨none, none, _⟩ :: _) _; refine go_st (hk := ?_)) | (show GO _ _ _ _ _ (⟨_, some _, _⟩ :: _) _; first | refine go_in (hk := ?_) | refine go_out (hk := ?_) | refine go_void (hk := ?_)) | (show GK _ _ _ _ (blockK _ _ _); refine gk_past rfl ?_) | (show GC _ _ _ _ _ (.cond _ _ _) _; first | refine gc_yes (h1 := ?_) | refine gc_no (h1 := ?_))))
    exact gk_ret rfl fun H' hH => ⟨by rw [e]; show AV.int _ (max x (-x)) = _; congr 1; omega, hH.leE⟩

theorem div_num {a b : Int} (h : b ≠ 0) : ((a : Rat) / (b : Rat)).num = (b.sign * a).tdiv (Int.gcd a b : Nat) ∧ (((a : Rat) / (b : Rat)).den : Int) = (max b (-b)) / (Int.gcd a b : Nat) := by
  rw [← Rat.divInt_eq_div, Rat.num_divInt, Rat.den_divInt, if_neg h, Int.gcd_comm b a]
  have hg : (0 : Int) < (Int.gcd a b : Nat) := by
    have := Int.gcd_pos_of_ne_zero_right a h
    omega
  refine ⟨?_, ?_⟩
  · rw [Int.tdiv_eq_ediv_of_dvd]
    exact Int.dvd_mul_of_dvd_right (Int.gcd_dvd_left ..)
  · rw [Int.natCast_ediv]
    congr 1
    omega

theorem tdiv_in {a g B : Int} (h : -B ≤ a ∧ a ≤ B) : -B ≤ a.tdiv g ∧ a.tdiv g ≤ B := by
  have h1 : (a.tdiv g).natAbs ≤ a.natAbs := by rw [Int.natAbs_tdiv]; exact Nat.div_le_self _ _
  omega

theorem frac_ok {H : Heap} {a b : Int} (ha : -4611686018427387904 ≤ a ∧ a ≤ 4611686018427387904) (hb : -4611686018427387904 ≤ b ∧ b ≤ 4611686018427387904) (h0 : b ≠ 0) :
    ACalls Try.prog fn_spec_frac [.int .i64 a, .int .i64 b] H fun r H' => r = frV ((a : Rat) / (b : Rat)) ∧ H' = H := by
  refine ACalls.val ?_ rfl
  have hg : (0 : Int) < (Int.gcd a b : Nat) := by
    have := Int.gcd_pos_of_ne_zero_right a h0
    omega
  obtain ⟨e1, e2⟩ := div_num (a := a) h0
  refine code_spec_frac.go [] trivial (by simp) ?_
  unfold mc_spec_frac
  (repeat (first | refine gst (hk := ?_) | (with_reducible first | (refine gc_drw (h := ?_); intro _) | (refine gc_drw2 (h := ?_); intro _)) | (show GO _ _ _ _ _ (⟨some _, none, _⟩ :: _) _; first | refine go_op (hk := ?_) | (refine go_nw (hk := ?_); intro u; try simp only [llc, lln, lna, lza]) | (refine go_np (hk := ?_); intro id)) | (show GD _ _ _ _ _ _ _ (⟨some _, none, _⟩ :: _) _; first | refine gd_op (hk := ?_) | (refine gd_nw (hk := ?_); intro u; try simp only [llc, lln, lna, lza])) | (show GD2 _ _ _ _ _ _ _ _ _ _ _ _ _ _; first | refine gd2_nil rfl ?_ | refine gd2_op (hk := ?_) | (refine gd2_nw (hk := ?_); intro u; try simp only [llc, lln, lna, lza]) | refine gd2_l (hk := ?_) | refine gd2_lp (hk := ?_) | (refine gd2_newp (hk := ?_); intro id) | refine gd2_st (hk := ?_) | (refine gd2_bsl rfl rfl ?_; intro u; try simp only [llc, lln, lna, lza]) | (refine gd2_a (hk := ?_); intro u; try simp only [llc, lln, lna, lza])) | (show GO _ _ _ _ _ (⟨none, none, _⟩ :: _) _; refine go_st (hk := ?_)) | (show GD _ _ _ _ _ _ _ (⟨none, none, _⟩ :: _) _; refine gd_st (hk := ?_)) | (show GO _ _ _ _ _ (⟨_, some _, _⟩ :: _) _; first | refine go_in (hk := ?_) | refine go_out (hk := ?_) | refine go_void (hk := ?_)) | (show GK _ _ _ _ (blockK _ _ _); refine gk_past rfl ?_) | (show GC _ _ _ _ _ (.cond _ _ _) _; first | refine gc_yes (h1 := ?_) | refine gc_no (h1 := ?_))))
  refine gc_cond rfl (fun h => ?_) (fun h => ?_)
  · have eg : Int.gcd (-a) (-b) = Int.gcd a b := by rw [Int.gcd_neg, Int.neg_gcd]
    have d1 := tdiv_in (a := -a) (g := (Int.gcd a b : Nat)) (B := 4611686018427387904) (by omega)
    have d2 := tdiv_in (a := -b) (g := (Int.gcd a b : Nat)) (B := 4611686018427387904) (by omega)
    rw [show b.sign = -1 from Int.sign_eq_neg_one_of_neg h] at e1
    rw [show max b (-b) = -b by omega] at e2
    rw [show (-1 : Int) * a = -a by omega] at e1
    (repeat (first | refine gst (hk := ?_) | (with_reducible first | (refine gc_drw (h := ?_); intro _) | (refine gc_drw2 (h := ?_); intro _)) | (show GO _ _ _ _ _ (⟨some _, none, _⟩ :: _) _; first | refine go_op (hk := ?_) | (refine go_nw (hk := ?_); intro u; try simp only [llc, lln, lna, lza]) | (refine go_np (hk := ?_); intro id)) | (show GD _ _ _ _ _ _ _ (⟨some _, none, _⟩ :: _) _; first | refine gd_op (hk := ?_) | (refine gd_nw (hk := ?_); intro u; try simp only [llc, lln, lna, lza])) | (show GD2 _ _ _ _ _ _ _ _ _ _ _ _ _ _; first | refine gd2_nil rfl ?_ | refine gd2_op (hk := ?_) | (refine gd2_nw (hk := ?_); intro u; try simp only [llc, lln, lna, lza]) | refine gd2_l (hk := ?_) | refine gd2_lp (hk := ?_) | (refine gd2_newp (hk := ?_); intro id) | refine gd2_st (hk := ?_) | (refine gd2_bsl rfl rfl ?_; intro u; try simp only [llc, lln, lna, lza]) | (refine gd2_a (hk := ?_); intro u; try simp only [llc, lln, lna, lza])) | (show GO _ _ _ _ _ (⟨none, none, _⟩ :: _) _; refine go_st (hk := ?_)) | (show GD _ _ _ _ _ _ _ (⟨none, none, _⟩ :: _) _; refine gd_st (hk := ?_)) | (show GO _ _ _ _ _ (⟨_, some _, _⟩ :: _) _; first | refine go_in (hk := ?_) | refine go_out (hk := ?_) | refine go_void (hk := ?_)) | (show GK _ _ _ _ (blockK _ _ _); refine gk_past rfl ?_) | (show GC _ _ _ _ _ (.cond _ _ _) _; first | refine gc_yes (h1 := ?_) | refine gc_no (h1 := ?_))))
    refine go_callp rfl code_spec_gcd.callable (fun H hH => gcd_ok (by omega) (by omega)) ?_
    rw [eg]
    (repeat (first | refine gst (hk := ?_) | (with_reducible first | (refine gc_drw (h := ?_); intro _) | (refine gc_drw2 (h := ?_); intro _)) | (show GO _ _ _ _ _ (⟨some _, none, _⟩ :: _) _; first | refine go_op (hk := ?_) | (refine go_nw (hk := ?_); intro u; try simp only [llc, lln, lna, lza]) | (refine go_np (hk := ?_); intro id)) | (show GD _ _ _ _ _ _ _ (⟨some _, none, _⟩ :: _) _; first | refine gd_op (hk := ?_) | (refine gd_nw (hk := ?_); intro u; try simp only [llc, lln, lna, lza])) | (show GD2 _ _ _ _ _ _ _ _ _ _ _ _ _ _; first | refine gd2_nil rfl ?_ | refine gd2_op (hk := ?_) | (refine gd2_nw (hk := ?_); intro u; try simp only [llc, lln, lna, lza]) | refine gd2_l (hk := ?_) | refine gd2_lp (hk := ?_) | (refine gd2_newp (hk := ?_); intro id) | refine gd2_st (hk := ?_) | (refine gd2_bsl rfl rfl ?_; intro u; try simp only [llc, lln, lna, lza]) | (refine gd2_a (hk := ?_); intro u; try simp only [llc, lln, lna, lza])) | (show GO _ _ _ _ _ (⟨none, none, _⟩ :: _) _; refine go_st (hk := ?_)) | (show GD _ _ _ _ _ _ _ (⟨none, none, _⟩ :: _) _; refine gd_st (hk := ?_)) | (show GO _ _ _ _ _ (⟨_, some _, _⟩ :: _) _; first | refine go_in (hk := ?_) | refine go_out (hk := ?_) | refine go_void (hk := ?_)) | (show GK _ _ _ _ (blockK _ _ _); refine gk_past rfl ?_) | (show GC _ _ _ _ _ (.cond _ _ _) _; first | refine gc_yes (h1 := ?_) | refine gc_no (h1 := ?_))))
    refine gd_is rfl (stp_quo (a := -a) (b := ((Int.gcd a b : Nat) : Int)) (by exact rfl) (by exact rfl) (by omega) (by omega)) ?_
    (repeat (first | refine gst (hk := ?_) | (with_reducible first | (refine gc_drw (h := ?_); intro _) | (refine gc_drw2 (h := ?_); intro _)) | (show GO _ _ _ _ _ (⟨some _, none, _⟩ :: _) _; first | refine go_op (hk := ?_) | (refine go_nw (hk := ?_); intro u; try simp only [llc, lln, lna, lza]) | (refine go_np (hk := ?_); intro id)) | (show GD _ _ _ _ _ _ _ (⟨some _, none, _⟩ :: _) _; first | refine gd_op (hk := ?_) | (refine gd_nw (hk := ?_); intro u; try simp only [llc, lln, lna, lza])) | (show GD2 _ _ _ _ _ _ _ _ _ _ _ _ _ _; first | refine gd2_nil rfl ?_ | refine gd2_op (hk := ?_) | (refine gd2_nw (hk := ?_); intro u; try simp only [llc, lln, lna, lza]) | refine gd2_l (hk := ?_) | refine gd2_lp (hk := ?_) | (refine gd2_newp (hk := ?_); intro id) | refine gd2_st (hk := ?_) | (refine gd2_bsl rfl rfl ?_; intro u; try simp only [llc, lln, lna, lza]) | (refine gd2_a (hk := ?_); intro u; try simp only [llc, lln, lna, lza])) | (show GO _ _ _ _ _ (⟨none, none, _⟩ :: _) _; refine go_st (hk := ?_)) | (show GD _ _ _ _ _ _ _ (⟨none, none, _⟩ :: _) _; refine gd_st (hk := ?_)) | (show GO _ _ _ _ _ (⟨_, some _, _⟩ :: _) _; first | refine go_in (hk := ?_) | refine go_out (hk := ?_) | refine go_void (hk := ?_)) | (show GK _ _ _ _ (blockK _ _ _); refine gk_past rfl ?_) | (show GC _ _ _ _ _ (.cond _ _ _) _; first | refine gc_yes (h1 := ?_) | refine gc_no (h1 := ?_))))
    exact gk_retc rfl (by exact Sel.auto) rfl rfl fun H' hH => ⟨by rw [frV, e1, e2]; rfl, hH.leE⟩
  · have d1 := tdiv_in (a := a) (g := (Int.gcd a b : Nat)) (B := 4611686018427387904) (by omega)
    have d2 := tdiv_in (a := b) (g := (Int.gcd a b : Nat)) (B := 4611686018427387904) (by omega)
    rw [show b.sign = 1 from Int.sign_eq_one_of_pos (by omega)] at e1
    rw [show max b (-b) = b by omega] at e2
    rw [show (1 : Int) * a = a by omega] at e1
    (repeat (first | refine gst (hk := ?_) | (with_reducible first | (refine gc_drw (h := ?_); intro _) | (refine gc_drw2 (h := ?_); intro _)) | (show GO _ _ _ _ _ (⟨some _, none, _⟩ :: _) _; first | refine go_op (hk := ?_) | (refine go_nw (hk := ?_); intro u; try simp only [llc, lln, lna, lza]) | (refine go_np (hk := ?_); intro id)) | (show GD _ _ _ _ _ _ _ (⟨some _, none, _⟩ :: _) _; first | refine gd_op (hk := ?_) | (refine gd_nw (hk := ?_); intro u; try simp only [llc, lln, lna, lza])) | (show GD2 _ _ _ _ _ _ _ _ _ _ _ _ _ _; first | refine gd2_nil rfl ?_ | refine gd2_op (hk := ?_) | (refine gd2_nw (hk := ?_); intro u; try simp only [llc, lln, lna, lza]) | refine gd2_l (hk := ?_) | refine gd2_lp (hk := ?_) | (refine gd2_newp (hk := ?_); intro id) | refine gd2_st (hk := ?_) | (refine gd2_bsl rfl rfl ?_; intro u; try simp only [llc, lln, lna, lza]) | (refine gd2_a (hk := ?_); intro u; try simp only [llc, lln, lna, lza])) | (show GO _ _ _ _ _ (⟨none, none, _⟩ :: _) _; refine go_st (hk := ?_)) | (show GD _ _ _ _ _ _ _ (⟨none, none, _⟩ :: _) _; refine gd_st (hk := ?_)) | (show GO _ _ _ _ _ (⟨_, some _, _⟩ :: _) _; first | refine go_in (hk := ?_) | refine go_out (hk := ?_) | refine go_void (hk := ?_)) | (show GK _ _ _ _ (blockK _ _ _); refine gk_past rfl ?_) | (show GC _ _ _ _ _ (.cond _ _ _) _; first | refine gc_yes (h1 := ?_) | refine gc_no (h1 := ?_))))
    refine go_callp rfl code_spec_gcd.callable (fun H hH => gcd_ok (by omega) (by omega)) ?_
    (repeat (first | refine gst (hk := ?_) | (with_reducible first | (refine gc_drw (h := ?_); intro _) | (refine gc_drw2 (h := ?_); intro _)) | (show GO _ _ _ _ _ (⟨some _, none, _⟩ :: _) _; first | refine go_op (hk := ?_) | (refine go_nw (hk := ?_); intro u; try simp only [llc, lln, lna, lza]) | (refine go_np (hk := ?_); intro id)) | (show GD _ _ _ _ _ _ _ (⟨some _, none, _⟩ :: _) _; first | refine gd_op (hk := ?_) | (refine gd_nw (hk := ?_); intro u; try simp only [llc, lln, lna, lza])) | (show GD2 _ _ _ _ _ _ _ _ _ _ _ _ _ _; first | refine gd2_nil rfl ?_ | refine gd2_op (hk := ?_) | (refine gd2_nw (hk := ?_); intro u; try simp only [llc, lln, lna, lza]) | refine gd2_l (hk := ?_) | refine gd2_lp (hk := ?_) | (refine gd2_newp (hk := ?_); intro id) | refine gd2_st (hk := ?_) | (refine gd2_bsl rfl rfl ?_; intro u; try simp only [llc, lln, lna, lza]) | (refine gd2_a (hk := ?_); intro u; try simp only [llc, lln, lna, lza])) | (show GO _ _ _ _ _ (⟨none, none, _⟩ :: _) _; refine go_st (hk := ?_)) | (show GD _ _ _ _ _ _ _ (⟨none, none, _⟩ :: _) _; refine gd_st (hk := ?_)) | (show GO _ _ _ _ _ (⟨_, some _, _⟩ :: _) _; first | refine go_in (hk := ?_) | refine go_out (hk := ?_) | refine go_void (hk := ?_)) | (show GK _ _ _ _ (blockK _ _ _); refine gk_past rfl ?_) | (show GC _ _ _ _ _ (.cond _ _ _) _; first | refine gc_yes (h1 := ?_) | refine gc_no (h1 := ?_))))
    refine gd_is rfl (stp_quo (a := a) (b := ((Int.gcd a b : Nat) : Int)) (by exact rfl) (by exact rfl) (by omega) (by omega)) ?_
    (repeat (first | refine gst (hk := ?_) | (with_reducible first | (refine gc_drw (h := ?_); intro _) | (refine gc_drw2 (h := ?_); intro _)) | (show GO _ _ _ _ _ (⟨some _, none, _⟩ :: _) _; first | refine go_op (hk := ?_) | (refine go_nw (hk := ?_); intro u; try simp only [llc, lln, lna, lza]) | (refine go_np (hk := ?_); intro id)) | (show GD _ _ _ _ _ _ _ (⟨some _, none, _⟩ :: _) _; first | refine gd_op (hk := ?_) | (refine gd_nw (hk := ?_); intro u; try simp only [llc, lln, lna, lza])) | (show GD2 _ _ _ _ _ _ _ _ _ _ _ _ _ _; first | refine gd2_nil rfl ?_ | refine gd2_op (hk := ?_) | (refine gd2_nw (hk := ?_); intro u; try simp only [llc, lln, lna, lza]) | refine gd2_l (hk := ?_) | refine gd2_lp (hk := ?_) | (refine gd2_newp (hk := ?_); intro id) | refine gd2_st (hk := ?_) | (refine gd2_bsl rfl rfl ?_; intro u; try simp only [llc, lln, lna, lza]) | (refine gd2_a (hk := ?_); intro u; try simp only [llc, lln, lna, lza])) | (show GO _ _ _ _ _ (⟨none, none, _⟩ :: _) _; refine go_st (hk := ?_)) | (show GD _ _ _ _ _ _ _ (⟨none, none, _⟩ :: _) _; refine gd_st (hk := ?_)) | (show GO _ _ _ _ _ (⟨_, some _, _⟩ :: _) _; first | refine go_in (hk := ?_) | refine go_out (hk := ?_) | refine go_void (hk := ?_)) | (show GK _ _ _ _ (blockK _ _ _); refine gk_past rfl ?_) | (show GC _ _ _ _ _ (.cond _ _ _) _; first | refine gc_yes (h1 := ?_) | refine gc_no (h1 := ?_))))
    exact gk_retc rfl (by exact Sel.auto) rfl rfl fun H' hH => ⟨by rw [frV, e1, e2]; rfl, hH.leE⟩

/- what is reckoned with fractions, where the numbers are not too great -/

theorem add_nd (p q : Rat) : ((p.num * (q.den : Int) + q.num * (p.den : Int) : Int) : Rat) / (((p.den : Int) * (q.den : Int) : Int) : Rat) = p + q := by
  have h1 := rat_nd p
  have h2 := rat_nd q
  have h3 : ((p.den : Int) : Rat) ≠ 0 := rat_ne (by have := den_pos p; omega)
  have h4 : ((q.den : Int) : Rat) ≠ 0 := rat_ne (by have := den_pos q; omega)
  rw [Rat.intCast_add, Rat.intCast_mul, Rat.intCast_mul, Rat.intCast_mul, ← h1, ← h2]
  generalize ((p.den : Int) : Rat) = x at *
  generalize ((q.den : Int) : Rat) = y at *
  grind

theorem mul_nd (p q : Rat) : ((p.num * q.num : Int) : Rat) / (((p.den : Int) * (q.den : Int) : Int) : Rat) = p * q := by
  have h1 := rat_nd p
  have h2 := rat_nd q
  have h3 : ((p.den : Int) : Rat) ≠ 0 := rat_ne (by have := den_pos p; omega)
  have h4 : ((q.den : Int) : Rat) ≠ 0 := rat_ne (by have := den_pos q; omega)
  rw [Rat.intCast_mul, Rat.intCast_mul, ← h1, ← h2]
  generalize ((p.den : Int) : Rat) = x at *
  generalize ((q.den : Int) : Rat) = y at *
  grind

/-- the products that are reckoned fit -/
def FitA (p q : Rat) : Prop := (-2000000000000000000 ≤ p.num * (q.den : Int) ∧ p.num * (q.den : Int) ≤ 2000000000000000000) ∧ (-2000000000000000000 ≤ q.num * (p.den : Int) ∧ q.num * (p.den : Int) ≤ 2000000000000000000) ∧ (p.den : Int) * (q.den : Int) ≤ 4000000000000000000

def FitM (p q : Rat) : Prop := (-4000000000000000000 ≤ p.num * q.num ∧ p.num * q.num ≤ 4000000000000000000) ∧ (p.den : Int) * (q.den : Int) ≤ 4000000000000000000

theorem dd_pos (p q : Rat) : 1 ≤ (p.den : Int) * (q.den : Int) := by
  have h1 := den_pos p
  have h2 := den_pos q
  have := Int.mul_pos (show 0 < (p.den : Int) by omega) (show 0 < (q.den : Int) by omega)
  omega

theorem specLess_ok {H : Heap} {p q : Rat} (hf : FitA p q) :
    ACalls Try.prog fn_spec_less [frV p, frV q] H fun r H' => r = .bool (decide (p < q)) ∧ H' = H := by
  refine ACalls.val ?_ rfl
  obtain ⟨h1, h2, h3⟩ := hf
  unfold frV
  refine code_spec_less.go [] trivial (by simp) ?_
  unfold mc_spec_less
  (repeat (first | refine gst (hk := ?_) | (show GO _ _ _ _ _ (⟨some _, none, _⟩ :: _) _; first | refine go_op (hk := ?_) | (refine go_nw (hk := ?_); intro u; try simp only [llc, lln, lna, lza]) | (refine go_np (hk := ?_); intro id)) | (show GO _ _ _ _ _ (⟨none, none, _⟩ :: _) _; refine go_st (hk := ?_)) | (show GO _ _ _ _ _ (⟨_, some _, _⟩ :: _) _; first | refine go_in (hk := ?_) | refine go_out (hk := ?_) | refine go_void (hk := ?_)) | (show GK _ _ _ _ (blockK _ _ _); refine gk_past rfl ?_) | (show GC _ _ _ _ _ (.cond _ _ _) _; first | refine gc_yes (h1 := ?_) | refine gc_no (h1 := ?_))))
  exact gk_ret rfl fun H' hH => ⟨by simp only [tupleOf, Rat.lt_iff], hH.leE⟩

theorem gc_drcs {P : Program} {A : Heap} {X : List Nat} {E : List (Nat × AV)} {S : Sig} {Q : Exit → St → Prop} {l : List MI} (Qt : Heap → FuncId → List AV → Option AV) (hq : ∀ H, SOk A X S H.size H → QtOk P (Qt H) H) (h : ∀ H, SOk A X S H.size H → GR P (Qt H) A X E S l (Q .normal)) : GC P A X E S (.drc l []) Q :=
  ⟨fun s hf => ⟨Qt s.H, hq s.H hf.ok, (h s.H hf.ok).g s [] hf⟩⟩

theorem pairs_one {fs : List (List Nat × List Nat)} {i j : Nat} {fi ti fj tj : List Nat} {r : List (Nat × Nat)} (hi : fs[i]? = some (fi, ti)) (hj : fs[j]? = some (fj, tj)) (h1 : ∀ id, id ∈ ti → id ∉ fj ++ tj) (h2 : ∀ id, id ∈ tj → id ∉ fi) (hr : pairsOk fs r) : pairsOk fs ((i, j) :: r) := by
  simp only [pairsOk, hi, hj]
  exact ⟨⟨h1, h2⟩, hr⟩

def RVs (A : Heap) (X : List Nat) (E : List (Nat × AV)) (S : Sig) (rs : List RV) (l : List AV) : Prop := ∀ s, Fit A X E S s → RV.all s rs = some l

theorem rvs_nil {A : Heap} {X : List Nat} {E : List (Nat × AV)} {S : Sig} : RVs A X E S [] [] := fun s _ => rfl

theorem rvs_t {A : Heap} {X : List Nat} {E : List (Nat × AV)} {S : Sig} {rs : List RV} {l : List AV} {i : Nat} {v : AV} (hl : look E i = some v) (h : RVs A X E S rs l) : RVs A X E S (.t i :: rs) (v :: l) := fun s hf => by
  simp only [RV.all, RV.get, hf.env _ _ hl, h s hf]

theorem rvs_c {A : Heap} {X : List Nat} {E : List (Nat × AV)} {S S0 : Sig} {rs : List RV} {l : List AV} {i n m es id : Nat} {ag : Bool} {cs : List AV} {v : AV} (hl : look E i = some (.ptr id 0)) (hs : Sel S ⟨.cell, .ptr id 0, es, m, cs⟩ S0) (hn : Nat.ble n cs.length = true) (hv : packC ag (cs.take n) = some v) (h : RVs A X E S rs l) : RVs A X E S (.c i n ag :: rs) (v :: l) := fun s hf => by
  have hc := (hf.ok.cellAt hs).1
  have e : RV.get s (.c i n ag) = some v := by
    simp only [RV.get, hf.env _ _ hl, Heap.read, hc]
    rw [if_pos (by have := Nat.le_of_ble_eq_true hn; omega)]
    simp only [List.drop_zero, hv]
  simp only [RV.all, e, h s hf]

theorem gk_rets {A : Heap} {X : List Nat} {E : List (Nat × AV)} {S : Sig} {rs : List RV} {l : List AV} {R : AV → Heap → Prop} (hr : RVs A X E S rs l) (h : ∀ H, SOk A X S H.size H → R (tupleOf l) H) : GK A X E S (retK rs R .ret) := by
  refine ⟨fun s hf => ?_⟩
  simp only [retK, hr s hf]
  exact h s.H hf.ok
/- families of fractions, in whatever memory -/

theorem frV_inj {p q : Rat} (h : frV p = frV q) : p = q := by
  unfold frV at h
  simp only [AV.agg.injEq, List.cons.injEq, AV.int.injEq, true_and, and_true] at h
  exact Rat.ext h.1 (by omega)

noncomputable def frOf (v : AV) : Option Rat := by
  classical
  exact if h : ∃ q, v = frV q then some (Classical.choose h) else none

theorem frOf_frV (q : Rat) : frOf (frV q) = some q := by
  unfold frOf
  have h : ∃ p, frV q = frV p := ⟨q, rfl⟩
  rw [dif_pos h, ← frV_inj (Classical.choose_spec h)]

theorem frOf_some {v : AV} {q : Rat} (h : frOf v = some q) : v = frV q := by
  unfold frOf at h
  split at h
  · rename_i h1
    simp only [Option.some.injEq] at h
    rw [← h]; exact Classical.choose_spec h1
  · cases h

/-- two fractions -/
noncomputable def fam2 (F : Rat → Rat → Prop) (g : Rat → Rat → AV) : List AV → Option AV
  | [v, w] => match frOf v, frOf w with
    | some p, some q => by
      classical
      exact if F p q then some (g p q) else none
    | _, _ => none
  | _ => none

theorem fam2_is {F : Rat → Rat → Prop} {g : Rat → Rat → AV} {p q : Rat} (h : F p q) : fam2 F g [frV p, frV q] = some (g p q) := by
  simp only [fam2, frOf_frV, if_pos h]

theorem fam2_ok {F : Rat → Rat → Prop} {g : Rat → Rat → AV} {f : FuncId} {P : Program} (hc : Callable P f) (h : ∀ {H : Heap} {p q : Rat}, F p q → ACalls P f [frV p, frV q] H fun r H' => r = g p q ∧ H' = H) (H : Heap) : FamOk P H f (fam2 F g) := by
  intro args v hv
  unfold fam2 at hv
  split at hv
  · split at hv
    · rename_i p q h1 h2
      split at hv
      · rename_i hF
        simp only [Option.some.injEq] at hv; subst hv
        rw [frOf_some h1, frOf_some h2]
        exact ⟨hc, h hF⟩
      · cases hv
    · cases hv
  · cases hv

theorem fitA_of {p q : Rat} {D E A B : Int} (hp : FD p D A) (hq : FD q E B) (h1 : A * E ≤ 2000000000000000000) (h2 : B * D ≤ 2000000000000000000) (h3 : D * E ≤ 4000000000000000000) : FitA p q := by
  obtain ⟨a1, a2, a3⟩ := hp.nd
  obtain ⟨b1, b2, b3⟩ := hq.nd
  have m1 := absmul (k := p.num) (l := (q.den : Int)) (A := A) (B := E) (by omega) (by omega) (by omega) (by omega)
  have m2 := absmul (k := q.num) (l := (p.den : Int)) (A := B) (B := D) (by omega) (by omega) (by omega) (by omega)
  have m3 := absmul (k := (p.den : Int)) (l := (q.den : Int)) (A := D) (B := E) (by omega) (by omega) (by omega) (by omega)
  exact ⟨by omega, by omega, by omega⟩

theorem fitM_of {p q : Rat} {D E A B : Int} (hp : FD p D A) (hq : FD q E B) (h1 : A * B ≤ 4000000000000000000) (h3 : D * E ≤ 4000000000000000000) : FitM p q := by
  obtain ⟨a1, a2, a3⟩ := hp.nd
  obtain ⟨b1, b2, b3⟩ := hq.nd
  have m1 := absmul (k := p.num) (l := q.num) (A := A) (B := B) (by omega) (by omega) (by omega) (by omega)
  have m3 := absmul (k := (p.den : Int)) (l := (q.den : Int)) (A := D) (B := E) (by omega) (by omega) (by omega) (by omega)
  exact ⟨by omega, by omega⟩

theorem mulbd {a b A B : Int} (ha : 0 ≤ a) (hb : 0 ≤ b) (h1 : a ≤ A) (h2 : b ≤ B) : a * b ≤ A * B :=
  Int.le_trans (Int.mul_le_mul_of_nonneg_right h1 hb) (Int.mul_le_mul_of_nonneg_left h2 (by omega))

theorem FD.pos {q : Rat} {D B : Int} (h : FD q D B) : 0 < D ∧ 0 ≤ B := by
  obtain ⟨hD, k, h1, h2, h3⟩ := h
  exact ⟨hD, by omega⟩

/-- the slope, the height: of a common D -/
structure LineOk (s h : Rat) (D A B : Int) : Prop where
  s : FD s D A
  h : FD h D B
  d : D ≤ 1000000
  a : A ≤ 1000000000
  b : B ≤ 10000000000

theorem LineOk.mid {s h : Rat} {D A B : Int} (hl : LineOk s h D A B) {x : Int} (hx : -24 ≤ x ∧ x ≤ 24) : FD (s * (x : Rat)) D (A * 24) := (hl.s.mul (FD.int hx)).to (by omega)

theorem LineOk.over {s h : Rat} {D A B : Int} (hl : LineOk s h D A B) {x y : Int} (hx : -24 ≤ x ∧ x ≤ 24) (hy : -24 ≤ y ∧ y ≤ 24) : FD ((y : Rat) - (s * (x : Rat) + h)) D (24 * D + (A * 24 + B)) := by
  have h1 := ((FD.int hy).lift (m := D) hl.s.pos.1).to (D' := D) (by omega)
  exact h1.sub ((hl.mid hx).add hl.h)

theorem LineOk.fits {s h : Rat} {D A B : Int} (hl : LineOk s h D A B) {x y : Int} (hx : -24 ≤ x ∧ x ≤ 24) (hy : -24 ≤ y ∧ y ≤ 24) : FitM s (x : Rat) ∧ FitA (s * (x : Rat)) h ∧ FitA (y : Rat) (s * (x : Rat) + h) := by
  obtain ⟨p1, p2⟩ := hl.s.pos
  obtain ⟨p3, p4⟩ := hl.h.pos
  have hd := hl.d
  have ha := hl.a
  have hb := hl.b
  have m1 := mulbd (a := A * 24) (b := D) (A := 24000000000) (B := 1000000) (by omega) (by omega) (by omega) hd
  have m2 := mulbd (a := B) (b := D) (A := 10000000000) (B := 1000000) (by omega) (by omega) hb hd
  have m3 := mulbd (a := D) (b := D) (A := 1000000) (B := 1000000) (by omega) (by omega) hd hd
  refine ⟨fitM_of hl.s (FD.int hx) (by omega) (by omega), fitA_of (hl.mid hx) hl.h (by omega) (by omega) (by omega), fitA_of (FD.int hy) ((hl.mid hx).add hl.h) (by omega) (by omega) (by omega)⟩

def PtsT (xs ys : List Int) (n : Nat) : Prop := ∀ i, i < n → i < ys.length ∧ (-12 ≤ nth xs i ∧ nth xs i ≤ 12) ∧ (-12 ≤ nth ys i ∧ nth ys i ≤ 12)

def Pts (xs ys : List Int) : Prop := PtsT xs ys xs.length ∧ xs.length = ys.length ∧ xs.length ≤ 7

def Wide (xs : List Int) : Prop := ∃ i, 1 ≤ i ∧ i < xs.length ∧ nth xs i ≠ nth xs 0

def Cloud (xs ys : List Int) : Prop := Pts xs ys ∧ Wide xs

noncomputable instance (xs ys : List Int) : Decidable (Pts xs ys) := Classical.propDecidable _

noncomputable instance (xs : List Int) : Decidable (Wide xs) := Classical.propDecidable _

noncomputable instance (xs ys : List Int) : Decidable (Cloud xs ys) := Classical.propDecidable _

theorem PtsT.succ {xs ys : List Int} {i : Nat} (h : PtsT xs ys i) (h1 : i < ys.length) (h2 : -12 ≤ nth xs i ∧ nth xs i ≤ 12) (h3 : -12 ≤ nth ys i ∧ nth ys i ≤ 12) : PtsT xs ys (i + 1) := by
  intro k hk
  rcases Nat.lt_or_ge k i with h4 | h4
  · exact h k h4
  · rw [show k = i by omega]; exact ⟨h1, h2, h3⟩

def dotT (xs ys : List Int) : Nat → Int
  | 0 => 0
  | i + 1 => dotT xs ys i + nth xs i * nth ys i

def devT (xs : List Int) (c : Int) : Nat → Int
  | 0 => 0
  | i + 1 => devT xs c i + (nth xs i - c) * (nth xs i - c)

theorem devT_eq (xs : List Int) (c : Int) : ∀ k, devT xs c k = dotT xs xs k - 2 * c * sumI xs k + k * (c * c)
  | 0 => by simp [devT, dotT, sumI]
  | k + 1 => by
    have := devT_eq xs c k
    simp only [devT, dotT, sumI, Int.natCast_add, Int.natCast_one]
    grind

theorem sq_nonneg (a : Int) : 0 ≤ a * a := by
  rcases Int.le_total 0 a with h | h
  · exact Int.mul_nonneg h h
  · have := Int.mul_nonneg (a := -a) (b := -a) (by omega) (by omega)
    rw [Int.neg_mul_neg] at this; exact this

theorem sq_pos {a : Int} (h : a ≠ 0) : 1 ≤ a * a := by
  rcases Int.lt_or_le 0 a with h1 | h1
  · have := Int.mul_pos h1 h1; omega
  · have := Int.mul_pos (a := -a) (b := -a) (by omega) (by omega)
    rw [Int.neg_mul_neg] at this; omega

theorem devT_nonneg (xs : List Int) (c : Int) : ∀ k, 0 ≤ devT xs c k
  | 0 => Int.le_refl _
  | k + 1 => by
    have h1 := devT_nonneg xs c k
    have h2 := sq_nonneg (nth xs k - c)
    rw [devT]; omega

theorem devT_ge {xs : List Int} {c : Int} {i : Nat} : ∀ {k}, i < k → (nth xs i - c) * (nth xs i - c) ≤ devT xs c k
  | 0, h => by omega
  | k + 1, h => by
    have h1 := devT_nonneg xs c k
    have h2 := sq_nonneg (nth xs k - c)
    rw [devT]
    rcases Nat.lt_or_ge i k with h3 | h3
    · have := devT_ge (xs := xs) (c := c) h3; omega
    · rw [show i = k by omega]; omega

def delT (xs : List Int) (k : Nat) : Int := k * dotT xs xs k - sumI xs k * sumI xs k

theorem delT_succ (xs : List Int) (k : Nat) : delT xs (k + 1) = delT xs k + devT xs (nth xs k) k := by
  rw [devT_eq]
  simp only [delT, dotT, sumI, Int.natCast_add, Int.natCast_one]
  grind

theorem delT_nonneg (xs : List Int) : ∀ k, 0 ≤ delT xs k
  | 0 => by simp [delT, sumI]
  | k + 1 => by
    have h1 := delT_nonneg xs k
    have h2 := devT_nonneg xs (nth xs k) k
    rw [delT_succ]; omega

theorem delT_pos {xs : List Int} : ∀ {k i}, i < k → nth xs i ≠ nth xs 0 → 1 ≤ delT xs k
  | 0, i, h, _ => by omega
  | k + 1, i, h, hn => by
    have h1 := delT_nonneg xs k
    have h2 := devT_nonneg xs (nth xs k) k
    rw [delT_succ]
    rcases Nat.lt_or_ge i k with h3 | h3
    · have := delT_pos h3 hn; omega
    · have hi : i = k := by omega
      subst hi
      have h0 : 0 < i := by
        rcases Nat.eq_zero_or_pos i with h4 | h4
        · subst h4; exact absurd rfl hn
        · exact h4
      have h4 := devT_ge (xs := xs) (c := nth xs i) h0
      have h5 := sq_pos (a := nth xs 0 - nth xs i) (by omega)
      omega

theorem dotT_le {xs ys : List Int} {n : Nat} (h : PtsT xs ys n) : ∀ {k}, k ≤ n → -(144 * (k : Int)) ≤ dotT xs ys k ∧ dotT xs ys k ≤ 144 * (k : Int)
  | 0, _ => by simp [dotT]
  | k + 1, hk => by
    have h1 := dotT_le h (k := k) (by omega)
    obtain ⟨_, h2, h3⟩ := h k (by omega)
    have h4 := absmul h2.1 h2.2 h3.1 h3.2
    rw [dotT]; omega

theorem PtsT.xx {xs ys : List Int} {n : Nat} (h : PtsT xs ys n) (hx : n ≤ xs.length) : PtsT xs xs n := fun i hi => ⟨by omega, (h i hi).2.1, (h i hi).2.1⟩

/-- the line of least squares -/
def sqA (xs ys : List Int) : Rat := (((xs.length : Int) * dotT xs ys xs.length - sumL xs * sumL ys : Int) : Rat) / ((delT xs xs.length : Int) : Rat)

def sqB (xs ys : List Int) : Rat := ((sumL ys : Int) : Rat) / (((xs.length : Int)) : Rat) - sqA xs ys * (((sumL xs : Int) : Rat) / (((xs.length : Int)) : Rat))

structure SqF (xs ys : List Int) : Prop where
  n : 2 ≤ xs.length ∧ xs.length ≤ 7
  sx : -84 ≤ sumL xs ∧ sumL xs ≤ 84
  sy : -84 ≤ sumL ys ∧ sumL ys ≤ 84
  del : 1 ≤ delT xs xs.length ∧ delT xs xs.length ≤ 14112
  up : -14112 ≤ (xs.length : Int) * dotT xs ys xs.length - sumL xs * sumL ys ∧ (xs.length : Int) * dotT xs ys xs.length - sumL xs * sumL ys ≤ 14112
  p1 : -7056 ≤ (xs.length : Int) * dotT xs ys xs.length ∧ (xs.length : Int) * dotT xs ys xs.length ≤ 7056
  p2 : -7056 ≤ (xs.length : Int) * dotT xs xs xs.length ∧ (xs.length : Int) * dotT xs xs xs.length ≤ 7056
  p3 : -7056 ≤ sumL xs * sumL ys ∧ sumL xs * sumL ys ≤ 7056
  p4 : -7056 ≤ sumL xs * sumL xs ∧ sumL xs * sumL xs ≤ 7056
  e : delT xs xs.length = (xs.length : Int) * dotT xs xs xs.length - sumL xs * sumL xs
  line : LineOk (sqA xs ys) (sqB xs ys) (delT xs xs.length * (xs.length : Int)) 98784 2376108

theorem Pts.bd {xs ys : List Int} (h : Pts xs ys) : Bd 12 xs ∧ Bd 12 ys := by
  refine ⟨fun x hx => ?_, fun y hy => ?_⟩
  · obtain ⟨i, hi, rfl⟩ := List.mem_iff_getElem.1 hx
    have := (h.1 i hi).2.1
    rwa [nth_of hi] at this
  · obtain ⟨i, hi, rfl⟩ := List.mem_iff_getElem.1 hy
    have := (h.1 i (by have := h.2.1; omega)).2.2
    rwa [nth_of hi] at this

theorem Cloud.sq {xs ys : List Int} (h : Cloud xs ys) : SqF xs ys := by
  obtain ⟨hp, i, hi1, hi2, hi3⟩ := h
  obtain ⟨b1, b2⟩ := hp.bd
  have hlen := hp.2.1
  have h7 := hp.2.2
  have sx := sumL_le b1 (by omega)
  have sy := sumL_le b2 (by omega)
  have hd := delT_pos hi2 hi3
  have d1 := dotT_le hp.1 (Nat.le_refl _)
  have d2 := dotT_le (hp.1.xx (Nat.le_refl _)) (Nat.le_refl _)
  have m1 := absmul (k := (xs.length : Int)) (l := dotT xs ys xs.length) (A := 7) (B := 1008) (by omega) (by omega) (by omega) (by omega)
  have m2 := absmul (k := (xs.length : Int)) (l := dotT xs xs xs.length) (A := 7) (B := 1008) (by omega) (by omega) (by omega) (by omega)
  have m3 := absmul (k := sumL xs) (l := sumL ys) (A := 84) (B := 84) (by omega) (by omega) (by omega) (by omega)
  have m4 := absmul (k := sumL xs) (l := sumL xs) (A := 84) (B := 84) (by omega) (by omega) (by omega) (by omega)
  have e : delT xs xs.length = (xs.length : Int) * dotT xs xs xs.length - sumL xs * sumL xs := by rw [delT, sumI_all]
  have hup : -14112 ≤ (xs.length : Int) * dotT xs ys xs.length - sumL xs * sumL ys ∧ (xs.length : Int) * dotT xs ys xs.length - sumL xs * sumL ys ≤ 14112 := by omega
  have hdel : 1 ≤ delT xs xs.length ∧ delT xs xs.length ≤ 14112 := by omega
  have m5 := mulbd (a := delT xs xs.length) (b := (xs.length : Int)) (A := 14112) (B := 7) (by omega) (by omega) (by omega) (by omega)
  have f1 : FD (sqA xs ys) (delT xs xs.length) 14112 := FD.div (by omega) hup
  have f2 : FD (((sumL ys : Int) : Rat) / (((xs.length : Int)) : Rat)) (xs.length : Int) 84 := FD.div (by omega) (by omega)
  have f3 : FD (((sumL xs : Int) : Rat) / (((xs.length : Int)) : Rat)) (xs.length : Int) 84 := FD.div (by omega) (by omega)
  refine ⟨by omega, by omega, by omega, hdel, hup, by omega, by omega, by omega, by omega, e, ⟨(f1.lift (m := (xs.length : Int)) (by omega)).mono (by omega), ?_, by omega, by omega, by omega⟩⟩
  have f4 := ((f2.lift (m := delT xs xs.length) (by omega)).to (Int.mul_comm _ _)).sub (f1.mul f3)
  exact f4.mono (by omega)

theorem SqF.fits {xs ys : List Int} (h : SqF xs ys) : FitM (sqA xs ys) (((sumL xs : Int) : Rat) / (((xs.length : Int)) : Rat)) ∧ FitA (((sumL ys : Int) : Rat) / (((xs.length : Int)) : Rat)) (sqA xs ys * (((sumL xs : Int) : Rat) / (((xs.length : Int)) : Rat))) := by
  obtain ⟨hn, hsx, hsy, hdel, hup, _, _, _, _, _, _⟩ := h
  have f1 : FD (sqA xs ys) (delT xs xs.length) 14112 := FD.div (by omega) hup
  have f2 : FD (((sumL ys : Int) : Rat) / (((xs.length : Int)) : Rat)) (xs.length : Int) 84 := FD.div (by omega) (by omega)
  have f3 : FD (((sumL xs : Int) : Rat) / (((xs.length : Int)) : Rat)) (xs.length : Int) 84 := FD.div (by omega) (by omega)
  have m5 := mulbd (a := delT xs xs.length) (b := (xs.length : Int)) (A := 14112) (B := 7) (by omega) (by omega) (by omega) (by omega)
  have m8 := Int.mul_nonneg (a := delT xs xs.length) (b := (xs.length : Int)) (by omega) (by omega)
  have m6 := mulbd (a := (xs.length : Int)) (b := delT xs xs.length * (xs.length : Int)) (A := 7) (B := 98784) (by omega) (by omega) (by omega) (by omega)
  have m7 := mulbd (a := (xs.length : Int)) (b := delT xs xs.length) (A := 7) (B := 14112) (by omega) (by omega) (by omega) (by omega)
  exact ⟨fitM_of f1 f3 (by omega) (by omega), fitA_of f2 (f1.mul f3) (by omega) (by omega) (by omega)⟩

abbrev cel0 (i : Nat) : Ch := ⟨.cell, .ptr i 0, 2, 1, [.int .i64 0, .int .i64 0]⟩

abbrev celF (i : Nat) (q : Rat) : Ch := ⟨.cell, .ptr i 0, 2, 1, [.int .i64 q.num, .int .i64 (q.den : Int)]⟩

end Go.Rx.Try
