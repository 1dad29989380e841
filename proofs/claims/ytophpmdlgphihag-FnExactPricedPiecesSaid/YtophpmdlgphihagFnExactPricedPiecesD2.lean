import Derived.Test.YtophpmdlgphihagFnExactPricedPiecesD1
namespace Go.Rx.Try
open Go.Proofs
set_option maxRecDepth 100000
set_option maxHeartbeats 8000000
set_option linter.unusedSimpArgs false
set_option linter.unusedVariables false

theorem commonFactor_ok {H : Heap} {a b : Int} (ha : -4611686018427387904 ≤ a ∧ a ≤ 4611686018427387904) (hb : -4611686018427387904 ≤ b ∧ b ≤ 4611686018427387904) :
    ACalls Try.prog fn_impl_commonFactor [.int .i64 a, .int .i64 b] H fun r H' => r = .int .i64 (Int.gcd a b : Nat) ∧ H' = H := by
  refine ACalls.val ?_ rfl
  refine code_impl_commonFactor.go [] trivial (by simp) ?_
  unfold mc_impl_commonFactor
  (repeat (first | refine gst (hk := ?_) | (with_reducible refine gc_drq ?_; intro _) | (show GO _ _ _ _ _ (⟨some _, none, _⟩ :: _) _; first | refine go_op (hk := ?_) | (refine go_nw (hk := ?_); intro u; try simp only [llc, lln, lna, lza]) | (refine go_np (hk := ?_); intro id)) | (show GQ _ _ _ _ _ _ _ (⟨some _, none, _⟩ :: _) _; first | refine gq_op (hk := ?_) | (refine gq_nw (hk := ?_); intro u; try simp only [llc, lln, lna, lza])) | (show GO _ _ _ _ _ (⟨none, none, _⟩ :: _) _; refine go_st (hk := ?_)) | (show GO _ _ _ _ _ (⟨_, some _, _⟩ :: _) _; first | refine go_in (hk := ?_) | refine go_out (hk := ?_) | refine go_void (hk := ?_)) | (show GQ _ _ _ _ _ _ _ (⟨_, some _, _⟩ :: _) _; first | refine gq_in (hk := ?_) | refine gq_out (hk := ?_) | refine gq_void (hk := ?_)) | (show GK _ _ _ _ (blockK _ _ _); refine gk_past rfl ?_) | (show GC _ _ _ _ _ (.cond _ _ _) _; first | refine gc_yes (h1 := ?_) | refine gc_no (h1 := ?_))))
  refine gc_loop (γ := Int × Int) (fun t => [(0, .int .i64 t.1), (1, .int .i64 t.2)]) (fun _ => []) (fun t => Int.gcd t.1 t.2 = Int.gcd a b ∧ (-4611686018427387904 ≤ t.1 ∧ t.1 ≤ 4611686018427387904) ∧ (-4611686018427387904 ≤ t.2 ∧ t.2 ≤ 4611686018427387904)) (fun t => t.2.natAbs) (a, b) ⟨rfl, ha, hb⟩ (hb := ?_)
  rintro ⟨x, y⟩ ⟨h1, h2, h3⟩ I ν m hk
  simp only at h1 h2 h3 hk ⊢
  (repeat (first | refine gst (hk := ?_) | (with_reducible refine gc_drq ?_; intro _) | (show GO _ _ _ _ _ (⟨some _, none, _⟩ :: _) _; first | refine go_op (hk := ?_) | (refine go_nw (hk := ?_); intro u; try simp only [llc, lln, lna, lza]) | (refine go_np (hk := ?_); intro id)) | (show GQ _ _ _ _ _ _ _ (⟨some _, none, _⟩ :: _) _; first | refine gq_op (hk := ?_) | (refine gq_nw (hk := ?_); intro u; try simp only [llc, lln, lna, lza])) | (show GO _ _ _ _ _ (⟨none, none, _⟩ :: _) _; refine go_st (hk := ?_)) | (show GO _ _ _ _ _ (⟨_, some _, _⟩ :: _) _; first | refine go_in (hk := ?_) | refine go_out (hk := ?_) | refine go_void (hk := ?_)) | (show GQ _ _ _ _ _ _ _ (⟨_, some _, _⟩ :: _) _; first | refine gq_in (hk := ?_) | refine gq_out (hk := ?_) | refine gq_void (hk := ?_)) | (show GK _ _ _ _ (blockK _ _ _); refine gk_past rfl ?_) | (show GC _ _ _ _ _ (.cond _ _ _) _; first | refine gc_yes (h1 := ?_) | refine gc_no (h1 := ?_))))
  refine gc_cond rfl (fun h => ?_) (fun h => ?_)
  · have h4 : (x.tmod y).natAbs < y.natAbs := by
      rw [Int.natAbs_tmod]; exact Nat.mod_lt _ (by omega)
    (repeat (first | refine gst (hk := ?_) | (with_reducible refine gc_drq ?_; intro _) | (show GO _ _ _ _ _ (⟨some _, none, _⟩ :: _) _; first | refine go_op (hk := ?_) | (refine go_nw (hk := ?_); intro u; try simp only [llc, lln, lna, lza]) | (refine go_np (hk := ?_); intro id)) | (show GQ _ _ _ _ _ _ _ (⟨some _, none, _⟩ :: _) _; first | refine gq_op (hk := ?_) | (refine gq_nw (hk := ?_); intro u; try simp only [llc, lln, lna, lza])) | (show GO _ _ _ _ _ (⟨none, none, _⟩ :: _) _; refine go_st (hk := ?_)) | (show GO _ _ _ _ _ (⟨_, some _, _⟩ :: _) _; first | refine go_in (hk := ?_) | refine go_out (hk := ?_) | refine go_void (hk := ?_)) | (show GQ _ _ _ _ _ _ _ (⟨_, some _, _⟩ :: _) _; first | refine gq_in (hk := ?_) | refine gq_out (hk := ?_) | refine gq_void (hk := ?_)) | (show GK _ _ _ _ (blockK _ _ _); refine gk_past rfl ?_) | (show GC _ _ _ _ _ (.cond _ _ _) _; first | refine gc_yes (h1 := ?_) | refine gc_no (h1 := ?_))))
    refine gq_is rfl (stp_rem rfl rfl h) ?_
    (repeat (first | refine gst (hk := ?_) | (with_reducible refine gc_drq ?_; intro _) | (show GO _ _ _ _ _ (⟨some _, none, _⟩ :: _) _; first | refine go_op (hk := ?_) | (refine go_nw (hk := ?_); intro u; try simp only [llc, lln, lna, lza]) | (refine go_np (hk := ?_); intro id)) | (show GQ _ _ _ _ _ _ _ (⟨some _, none, _⟩ :: _) _; first | refine gq_op (hk := ?_) | (refine gq_nw (hk := ?_); intro u; try simp only [llc, lln, lna, lza])) | (show GO _ _ _ _ _ (⟨none, none, _⟩ :: _) _; refine go_st (hk := ?_)) | (show GO _ _ _ _ _ (⟨_, some _, _⟩ :: _) _; first | refine go_in (hk := ?_) | refine go_out (hk := ?_) | refine go_void (hk := ?_)) | (show GQ _ _ _ _ _ _ _ (⟨_, some _, _⟩ :: _) _; first | refine gq_in (hk := ?_) | refine gq_out (hk := ?_) | refine gq_void (hk := ?_)) | (show GK _ _ _ _ (blockK _ _ _); refine gk_past rfl ?_) | (show GC _ _ _ _ _ (.cond _ _ _) _; first | refine gc_yes (h1 := ?_) | refine gc_no (h1 := ?_))))
    exact gk_next (hk (y, x.tmod y) ⟨by rw [tmod_gcd]; exact h1, h3, by simp only; omega⟩ h4)
  · have hy : y = 0 := by omega
    subst hy
    have e : (Int.gcd a b : Nat) = x.natAbs := by rw [← h1]; simp [Int.gcd]
    (repeat (first | refine gst (hk := ?_) | (with_reducible refine gc_drq ?_; intro _) | (show GO _ _ _ _ _ (⟨some _, none, _⟩ :: _) _; first | refine go_op (hk := ?_) | (refine go_nw (hk := ?_); intro u; try simp only [llc, lln, lna, lza]) | (refine go_np (hk := ?_); intro id)) | (show GQ _ _ _ _ _ _ _ (⟨some _, none, _⟩ :: _) _; first | refine gq_op (hk := ?_) | (refine gq_nw (hk := ?_); intro u; try simp only [llc, lln, lna, lza])) | (show GO _ _ _ _ _ (⟨none, none, _⟩ :: _) _; refine go_st (hk := ?_)) | (show GO _ _ _ _ _ (⟨_, some _, _⟩ :: _) _; first | refine go_in (hk := ?_) | refine go_out (hk := ?_) | refine go_void (hk := ?_)) | (show GQ _ _ _ _ _ _ _ (⟨_, some _, _⟩ :: _) _; first | refine gq_in (hk := ?_) | refine gq_out (hk := ?_) | refine gq_void (hk := ?_)) | (show GK _ _ _ _ (blockK _ _ _); refine gk_past rfl ?_) | (show GC _ _ _ _ _ (.cond _ _ _) _; first | refine gc_yes (h1 := ?_) | refine gc_no (h1 := ?_))))
    refine go_callp rfl code_impl_apart.callable (fun H hH => implApart0_ok h2) ?_
    (repeat (first | refine gst (hk := ?_) | (with_reducible refine gc_drq ?_; intro _) | (show GO _ _ _ _ _ (⟨some _, none, _⟩ :: _) _; first | refine go_op (hk := ?_) | (refine go_nw (hk := ?_); intro u; try simp only [llc, lln, lna, lza]) | (refine go_np (hk := ?_); intro id)) | (show GQ _ _ _ _ _ _ _ (⟨some _, none, _⟩ :: _) _; first | refine gq_op (hk := ?_) | (refine gq_nw (hk := ?_); intro u; try simp only [llc, lln, lna, lza])) | (show GO _ _ _ _ _ (⟨none, none, _⟩ :: _) _; refine go_st (hk := ?_)) | (show GO _ _ _ _ _ (⟨_, some _, _⟩ :: _) _; first | refine go_in (hk := ?_) | refine go_out (hk := ?_) | refine go_void (hk := ?_)) | (show GQ _ _ _ _ _ _ _ (⟨_, some _, _⟩ :: _) _; first | refine gq_in (hk := ?_) | refine gq_out (hk := ?_) | refine gq_void (hk := ?_)) | (show GK _ _ _ _ (blockK _ _ _); refine gk_past rfl ?_) | (show GC _ _ _ _ _ (.cond _ _ _) _; first | refine gc_yes (h1 := ?_) | refine gc_no (h1 := ?_))))
    exact gk_ret rfl fun H' hH => ⟨by rw [e]; show AV.int _ (max x (-x)) = _; congr 1; omega, hH.leE⟩

theorem tdiv_negneg {a g : Int} (h : 0 < g) : a.tdiv (-g) = (-a).tdiv g := by
  rw [Int.tdiv_neg, Int.neg_tdiv]

theorem lowest_ok {H : Heap} {a b : Int} (ha : -4611686018427387904 ≤ a ∧ a ≤ 4611686018427387904) (hb : -4611686018427387904 ≤ b ∧ b ≤ 4611686018427387904) (h0 : b ≠ 0) :
    ACalls Try.prog fn_impl_lowest [.int .i64 a, .int .i64 b] H fun r H' => r = frV ((a : Rat) / (b : Rat)) ∧ H' = H := by
  refine ACalls.val ?_ rfl
  have hg : (0 : Int) < (Int.gcd a b : Nat) := by
    have := Int.gcd_pos_of_ne_zero_right a h0
    omega
  have hg2 : (Int.gcd a b : Nat) ≤ b.natAbs := Nat.le_of_dvd (by omega) (Int.gcd_dvd_natAbs_right a b)
  obtain ⟨e1, e2⟩ := div_num (a := a) h0
  refine code_impl_lowest.go [] trivial (by simp) ?_
  unfold mc_impl_lowest
  (repeat (first | refine gst (hk := ?_) | (with_reducible first | (refine gc_drw (h := ?_); intro _) | (refine gc_drw2 (h := ?_); intro _)) | (show GO _ _ _ _ _ (⟨some _, none, _⟩ :: _) _; first | refine go_op (hk := ?_) | (refine go_nw (hk := ?_); intro u; try simp only [llc, lln, lna, lza]) | (refine go_np (hk := ?_); intro id)) | (show GD _ _ _ _ _ _ _ (⟨some _, none, _⟩ :: _) _; first | refine gd_op (hk := ?_) | (refine gd_nw (hk := ?_); intro u; try simp only [llc, lln, lna, lza])) | (show GD2 _ _ _ _ _ _ _ _ _ _ _ _ _ _; first | refine gd2_nil rfl ?_ | refine gd2_op (hk := ?_) | (refine gd2_nw (hk := ?_); intro u; try simp only [llc, lln, lna, lza]) | refine gd2_l (hk := ?_) | refine gd2_lp (hk := ?_) | (refine gd2_newp (hk := ?_); intro id) | refine gd2_st (hk := ?_) | (refine gd2_bsl rfl rfl ?_; intro u; try simp only [llc, lln, lna, lza]) | (refine gd2_a (hk := ?_); intro u; try simp only [llc, lln, lna, lza])) | (show GO _ _ _ _ _ (⟨none, none, _⟩ :: _) _; refine go_st (hk := ?_)) | (show GD _ _ _ _ _ _ _ (⟨none, none, _⟩ :: _) _; refine gd_st (hk := ?_)) | (show GO _ _ _ _ _ (⟨_, some _, _⟩ :: _) _; first | refine go_in (hk := ?_) | refine go_out (hk := ?_) | refine go_void (hk := ?_)) | (show GK _ _ _ _ (blockK _ _ _); refine gk_past rfl ?_) | (show GC _ _ _ _ _ (.cond _ _ _) _; first | refine gc_yes (h1 := ?_) | refine gc_no (h1 := ?_))))
  refine go_callp rfl code_impl_commonFactor.callable (fun H hH => commonFactor_ok (by omega) (by omega)) ?_
  (repeat (first | refine gst (hk := ?_) | (with_reducible first | (refine gc_drw (h := ?_); intro _) | (refine gc_drw2 (h := ?_); intro _)) | (show GO _ _ _ _ _ (⟨some _, none, _⟩ :: _) _; first | refine go_op (hk := ?_) | (refine go_nw (hk := ?_); intro u; try simp only [llc, lln, lna, lza]) | (refine go_np (hk := ?_); intro id)) | (show GD _ _ _ _ _ _ _ (⟨some _, none, _⟩ :: _) _; first | refine gd_op (hk := ?_) | (refine gd_nw (hk := ?_); intro u; try simp only [llc, lln, lna, lza])) | (show GD2 _ _ _ _ _ _ _ _ _ _ _ _ _ _; first | refine gd2_nil rfl ?_ | refine gd2_op (hk := ?_) | (refine gd2_nw (hk := ?_); intro u; try simp only [llc, lln, lna, lza]) | refine gd2_l (hk := ?_) | refine gd2_lp (hk := ?_) | (refine gd2_newp (hk := ?_); intro id) | refine gd2_st (hk := ?_) | (refine gd2_bsl rfl rfl ?_; intro u; try simp only [llc, lln, lna, lza]) | (refine gd2_a (hk := ?_); intro u; try simp only [llc, lln, lna, lza])) | (show GO _ _ _ _ _ (⟨none, none, _⟩ :: _) _; refine go_st (hk := ?_)) | (show GD _ _ _ _ _ _ _ (⟨none, none, _⟩ :: _) _; refine gd_st (hk := ?_)) | (show GO _ _ _ _ _ (⟨_, some _, _⟩ :: _) _; first | refine go_in (hk := ?_) | refine go_out (hk := ?_) | refine go_void (hk := ?_)) | (show GK _ _ _ _ (blockK _ _ _); refine gk_past rfl ?_) | (show GC _ _ _ _ _ (.cond _ _ _) _; first | refine gc_yes (h1 := ?_) | refine gc_no (h1 := ?_))))
  refine gc_cond rfl (fun h => ?_) (fun h => ?_)
  · have d1 := tdiv_in (a := -a) (g := (Int.gcd a b : Nat)) (B := 4611686018427387904) (by omega)
    have d2 := tdiv_in (a := -b) (g := (Int.gcd a b : Nat)) (B := 4611686018427387904) (by omega)
    rw [show b.sign = -1 from Int.sign_eq_neg_one_of_neg h] at e1
    rw [show max b (-b) = -b by omega] at e2
    rw [show (-1 : Int) * a = -a by omega] at e1
    rw [← tdiv_negneg hg] at d1 d2
    (repeat (first | refine gst (hk := ?_) | (with_reducible first | (refine gc_drw (h := ?_); intro _) | (refine gc_drw2 (h := ?_); intro _)) | (show GO _ _ _ _ _ (⟨some _, none, _⟩ :: _) _; first | refine go_op (hk := ?_) | (refine go_nw (hk := ?_); intro u; try simp only [llc, lln, lna, lza]) | (refine go_np (hk := ?_); intro id)) | (show GD _ _ _ _ _ _ _ (⟨some _, none, _⟩ :: _) _; first | refine gd_op (hk := ?_) | (refine gd_nw (hk := ?_); intro u; try simp only [llc, lln, lna, lza])) | (show GD2 _ _ _ _ _ _ _ _ _ _ _ _ _ _; first | refine gd2_nil rfl ?_ | refine gd2_op (hk := ?_) | (refine gd2_nw (hk := ?_); intro u; try simp only [llc, lln, lna, lza]) | refine gd2_l (hk := ?_) | refine gd2_lp (hk := ?_) | (refine gd2_newp (hk := ?_); intro id) | refine gd2_st (hk := ?_) | (refine gd2_bsl rfl rfl ?_; intro u; try simp only [llc, lln, lna, lza]) | (refine gd2_a (hk := ?_); intro u; try simp only [llc, lln, lna, lza])) | (show GO _ _ _ _ _ (⟨none, none, _⟩ :: _) _; refine go_st (hk := ?_)) | (show GD _ _ _ _ _ _ _ (⟨none, none, _⟩ :: _) _; refine gd_st (hk := ?_)) | (show GO _ _ _ _ _ (⟨_, some _, _⟩ :: _) _; first | refine go_in (hk := ?_) | refine go_out (hk := ?_) | refine go_void (hk := ?_)) | (show GK _ _ _ _ (blockK _ _ _); refine gk_past rfl ?_) | (show GC _ _ _ _ _ (.cond _ _ _) _; first | refine gc_yes (h1 := ?_) | refine gc_no (h1 := ?_))))
    refine gd_is rfl (stp_quo (a := a) (b := -((Int.gcd a b : Nat) : Int)) (by exact rfl) (by exact rfl) (by omega) (by omega)) ?_
    (repeat (first | refine gst (hk := ?_) | (with_reducible first | (refine gc_drw (h := ?_); intro _) | (refine gc_drw2 (h := ?_); intro _)) | (show GO _ _ _ _ _ (⟨some _, none, _⟩ :: _) _; first | refine go_op (hk := ?_) | (refine go_nw (hk := ?_); intro u; try simp only [llc, lln, lna, lza]) | (refine go_np (hk := ?_); intro id)) | (show GD _ _ _ _ _ _ _ (⟨some _, none, _⟩ :: _) _; first | refine gd_op (hk := ?_) | (refine gd_nw (hk := ?_); intro u; try simp only [llc, lln, lna, lza])) | (show GD2 _ _ _ _ _ _ _ _ _ _ _ _ _ _; first | refine gd2_nil rfl ?_ | refine gd2_op (hk := ?_) | (refine gd2_nw (hk := ?_); intro u; try simp only [llc, lln, lna, lza]) | refine gd2_l (hk := ?_) | refine gd2_lp (hk := ?_) | (refine gd2_newp (hk := ?_); intro id) | refine gd2_st (hk := ?_) | (refine gd2_bsl rfl rfl ?_; intro u; try simp only [llc, lln, lna, lza]) | (refine gd2_a (hk := ?_); intro u; try simp only [llc, lln, lna, lza])) | (show GO _ _ _ _ _ (⟨none, none, _⟩ :: _) _; refine go_st (hk := ?_)) | (show GD _ _ _ _ _ _ _ (⟨none, none, _⟩ :: _) _; refine gd_st (hk := ?_)) | (show GO _ _ _ _ _ (⟨_, some _, _⟩ :: _) _; first | refine go_in (hk := ?_) | refine go_out (hk := ?_) | refine go_void (hk := ?_)) | (show GK _ _ _ _ (blockK _ _ _); refine gk_past rfl ?_) | (show GC _ _ _ _ _ (.cond _ _ _) _; first | refine gc_yes (h1 := ?_) | refine gc_no (h1 := ?_))))
    refine gd_is rfl (stp_quo (a := b) (b := -((Int.gcd a b : Nat) : Int)) (by exact rfl) (by exact rfl) (by omega) (by omega)) ?_
    (repeat (first | refine gst (hk := ?_) | (with_reducible first | (refine gc_drw (h := ?_); intro _) | (refine gc_drw2 (h := ?_); intro _)) | (show GO _ _ _ _ _ (⟨some _, none, _⟩ :: _) _; first | refine go_op (hk := ?_) | (refine go_nw (hk := ?_); intro u; try simp only [llc, lln, lna, lza]) | (refine go_np (hk := ?_); intro id)) | (show GD _ _ _ _ _ _ _ (⟨some _, none, _⟩ :: _) _; first | refine gd_op (hk := ?_) | (refine gd_nw (hk := ?_); intro u; try simp only [llc, lln, lna, lza])) | (show GD2 _ _ _ _ _ _ _ _ _ _ _ _ _ _; first | refine gd2_nil rfl ?_ | refine gd2_op (hk := ?_) | (refine gd2_nw (hk := ?_); intro u; try simp only [llc, lln, lna, lza]) | refine gd2_l (hk := ?_) | refine gd2_lp (hk := ?_) | (refine gd2_newp (hk := ?_); intro id) | refine gd2_st (hk := ?_) | (refine gd2_bsl rfl rfl ?_; intro u; try simp only [llc, lln, lna, lza]) | (refine gd2_a (hk := ?_); intro u; try simp only [llc, lln, lna, lza])) | (show GO _ _ _ _ _ (⟨none, none, _⟩ :: _) _; refine go_st (hk := ?_)) | (show GD _ _ _ _ _ _ _ (⟨none, none, _⟩ :: _) _; refine gd_st (hk := ?_)) | (show GO _ _ _ _ _ (⟨_, some _, _⟩ :: _) _; first | refine go_in (hk := ?_) | refine go_out (hk := ?_) | refine go_void (hk := ?_)) | (show GK _ _ _ _ (blockK _ _ _); refine gk_past rfl ?_) | (show GC _ _ _ _ _ (.cond _ _ _) _; first | refine gc_yes (h1 := ?_) | refine gc_no (h1 := ?_))))
    exact gk_retc rfl (by exact Sel.auto) rfl rfl fun H' hH => ⟨by rw [tdiv_negneg hg, tdiv_negneg hg, frV, e1, e2, Int.tdiv_eq_ediv_of_nonneg (show 0 ≤ -b by omega)]; rfl, hH.leE⟩
  · have d1 := tdiv_in (a := a) (g := (Int.gcd a b : Nat)) (B := 4611686018427387904) (by omega)
    have d2 := tdiv_in (a := b) (g := (Int.gcd a b : Nat)) (B := 4611686018427387904) (by omega)
    rw [show b.sign = 1 from Int.sign_eq_one_of_pos (by omega)] at e1
    rw [show max b (-b) = b by omega] at e2
    rw [show (1 : Int) * a = a by omega] at e1
    (repeat (first | refine gst (hk := ?_) | (with_reducible first | (refine gc_drw (h := ?_); intro _) | (refine gc_drw2 (h := ?_); intro _)) | (show GO _ _ _ _ _ (⟨some _, none, _⟩ :: _) _; first | refine go_op (hk := ?_) | (refine go_nw (hk := ?_); intro u; try simp only [llc, lln, lna, lza]) | (refine go_np (hk := ?_); intro id)) | (show GD _ _ _ _ _ _ _ (⟨some _, none, _⟩ :: _) _; first | refine gd_op (hk := ?_) | (refine gd_nw (hk := ?_); intro u; try simp only [llc, lln, lna, lza])) | (show GD2 _ _ _ _ _ _ _ _ _ _ _ _ _ _; first | refine gd2_nil rfl ?_ | refine gd2_op (hk := ?_) | (refine gd2_nw (hk := ?_); intro u; try simp only [llc, lln, lna, lza]) | refine gd2_l (hk := ?_) | refine gd2_lp (hk := ?_) | (refine gd2_newp (hk := ?_); intro id) | refine gd2_st (hk := ?_) | (refine gd2_bsl rfl rfl ?_; intro u; try simp only [llc, lln, lna, lza]) | (refine gd2_a (hk := ?_); intro u; try simp only [llc, lln, lna, lza])) | (show GO _ _ _ _ _ (⟨none, none, _⟩ :: _) _; refine go_st (hk := ?_)) | (show GD _ _ _ _ _ _ _ (⟨none, none, _⟩ :: _) _; refine gd_st (hk := ?_)) | (show GO _ _ _ _ _ (⟨_, some _, _⟩ :: _) _; first | refine go_in (hk := ?_) | refine go_out (hk := ?_) | refine go_void (hk := ?_)) | (show GK _ _ _ _ (blockK _ _ _); refine gk_past rfl ?_) | (show GC _ _ _ _ _ (.cond _ _ _) _; first | refine gc_yes (h1 := ?_) | refine gc_no (h1 := ?_))))
    refine gd_is rfl (stp_quo (a := a) (b := ((Int.gcd a b : Nat) : Int)) (by exact rfl) (by exact rfl) (by omega) (by omega)) ?_
    (repeat (first | refine gst (hk := ?_) | (with_reducible first | (refine gc_drw (h := ?_); intro _) | (refine gc_drw2 (h := ?_); intro _)) | (show GO _ _ _ _ _ (⟨some _, none, _⟩ :: _) _; first | refine go_op (hk := ?_) | (refine go_nw (hk := ?_); intro u; try simp only [llc, lln, lna, lza]) | (refine go_np (hk := ?_); intro id)) | (show GD _ _ _ _ _ _ _ (⟨some _, none, _⟩ :: _) _; first | refine gd_op (hk := ?_) | (refine gd_nw (hk := ?_); intro u; try simp only [llc, lln, lna, lza])) | (show GD2 _ _ _ _ _ _ _ _ _ _ _ _ _ _; first | refine gd2_nil rfl ?_ | refine gd2_op (hk := ?_) | (refine gd2_nw (hk := ?_); intro u; try simp only [llc, lln, lna, lza]) | refine gd2_l (hk := ?_) | refine gd2_lp (hk := ?_) | (refine gd2_newp (hk := ?_); intro id) | refine gd2_st (hk := ?_) | (refine gd2_bsl rfl rfl ?_; intro u; try simp only [llc, lln, lna, lza]) | (refine gd2_a (hk := ?_); intro u; try simp only [llc, lln, lna, lza])) | (show GO _ _ _ _ _ (⟨none, none, _⟩ :: _) _; refine go_st (hk := ?_)) | (show GD _ _ _ _ _ _ _ (⟨none, none, _⟩ :: _) _; refine gd_st (hk := ?_)) | (show GO _ _ _ _ _ (⟨_, some _, _⟩ :: _) _; first | refine go_in (hk := ?_) | refine go_out (hk := ?_) | refine go_void (hk := ?_)) | (show GK _ _ _ _ (blockK _ _ _); refine gk_past rfl ?_) | (show GC _ _ _ _ _ (.cond _ _ _) _; first | refine gc_yes (h1 := ?_) | refine gc_no (h1 := ?_))))
    exact gk_retc rfl (by exact Sel.auto) rfl rfl fun H' hH => ⟨by rw [frV, e1, e2]; rfl, hH.leE⟩

theorem implWhole_ok {H : Heap} {n : Int} : ACalls Try.prog fn_impl_whole [.int .i64 n] H fun r H' => r = frV (n : Rat) ∧ H' = H := by
  refine ACalls.val ?_ rfl
  refine code_impl_whole.go [] trivial (by simp) ?_
  unfold mc_impl_whole
  (repeat (first | refine gst (hk := ?_) | (show GO _ _ _ _ _ (⟨some _, none, _⟩ :: _) _; first | refine go_op (hk := ?_) | (refine go_nw (hk := ?_); intro u; try simp only [llc, lln, lna, lza]) | (refine go_np (hk := ?_); intro id)) | (show GO _ _ _ _ _ (⟨none, none, _⟩ :: _) _; refine go_st (hk := ?_)) | (show GO _ _ _ _ _ (⟨_, some _, _⟩ :: _) _; first | refine go_in (hk := ?_) | refine go_out (hk := ?_) | refine go_void (hk := ?_)) | (show GK _ _ _ _ (blockK _ _ _); refine gk_past rfl ?_) | (show GC _ _ _ _ _ (.cond _ _ _) _; first | refine gc_yes (h1 := ?_) | refine gc_no (h1 := ?_))))
  exact gk_retc rfl (by exact Sel.auto) rfl rfl fun H' hH => ⟨rfl, hH.leE⟩

theorem implPlus_ok {H : Heap} {p q : Rat} (hf : FitA p q) :
    ACalls Try.prog fn_impl_Frac_plus [frV p, frV q] H fun r H' => r = frV (p + q) ∧ H' = H := by
  refine ACalls.val ?_ rfl
  obtain ⟨h1, h2, h3⟩ := hf
  have h4 := dd_pos p q
  unfold frV
  refine code_impl_Frac_plus.go [] trivial (by simp) ?_
  unfold mc_impl_Frac_plus
  (repeat (first | refine gst (hk := ?_) | (show GO _ _ _ _ _ (⟨some _, none, _⟩ :: _) _; first | refine go_op (hk := ?_) | (refine go_nw (hk := ?_); intro u; try simp only [llc, lln, lna, lza]) | (refine go_np (hk := ?_); intro id)) | (show GO _ _ _ _ _ (⟨none, none, _⟩ :: _) _; refine go_st (hk := ?_)) | (show GO _ _ _ _ _ (⟨_, some _, _⟩ :: _) _; first | refine go_in (hk := ?_) | refine go_out (hk := ?_) | refine go_void (hk := ?_)) | (show GK _ _ _ _ (blockK _ _ _); refine gk_past rfl ?_) | (show GC _ _ _ _ _ (.cond _ _ _) _; first | refine gc_yes (h1 := ?_) | refine gc_no (h1 := ?_))))
  refine go_callp rfl code_impl_lowest.callable (fun H hH => lowest_ok (by omega) (by omega) (by omega)) ?_
  rw [add_nd]
  (repeat (first | refine gst (hk := ?_) | (show GO _ _ _ _ _ (⟨some _, none, _⟩ :: _) _; first | refine go_op (hk := ?_) | (refine go_nw (hk := ?_); intro u; try simp only [llc, lln, lna, lza]) | (refine go_np (hk := ?_); intro id)) | (show GO _ _ _ _ _ (⟨none, none, _⟩ :: _) _; refine go_st (hk := ?_)) | (show GO _ _ _ _ _ (⟨_, some _, _⟩ :: _) _; first | refine go_in (hk := ?_) | refine go_out (hk := ?_) | refine go_void (hk := ?_)) | (show GK _ _ _ _ (blockK _ _ _); refine gk_past rfl ?_) | (show GC _ _ _ _ _ (.cond _ _ _) _; first | refine gc_yes (h1 := ?_) | refine gc_no (h1 := ?_))))
  exact gk_retc rfl (by exact Sel.auto) rfl rfl fun H' hH => ⟨rfl, hH.leE⟩

/-- which fraction is less: -1, 0, 1 -/
def cmR (p q : Rat) : Int := sgn (p.num * (q.den : Int) - q.num * (p.den : Int))

theorem cmR_neg {p q : Rat} : cmR p q < 0 ↔ p < q := by
  rw [Rat.lt_iff]; unfold cmR sgn
  split
  · omega
  · split <;> omega

theorem cmR_pos {p q : Rat} : 0 < cmR p q ↔ q < p := by
  rw [Rat.lt_iff]; unfold cmR sgn
  split
  · omega
  · split <;> omega

theorem implCompare_ok {H : Heap} {p q : Rat} (hf : FitA p q) :
    ACalls Try.prog fn_impl_Frac_compare [frV p, frV q] H fun r H' => r = .int .i64 (cmR p q) ∧ H' = H := by
  refine ACalls.val ?_ rfl
  obtain ⟨h1, h2, h3⟩ := hf
  unfold frV
  refine code_impl_Frac_compare.go [] trivial (by simp) ?_
  unfold mc_impl_Frac_compare
  (repeat (first | refine gst (hk := ?_) | (refine gq_call rfl (fun _ => qtCmp_is) ?_) | (show GO _ _ _ _ _ (⟨some _, none, _⟩ :: _) _; first | refine go_op (hk := ?_) | (refine go_nw (hk := ?_); intro u; try simp only [llc, lln, lna, lza]) | (refine go_np (hk := ?_); intro id)) | (show GO _ _ _ _ _ (⟨none, none, _⟩ :: _) _; refine go_st (hk := ?_)) | (show GO _ _ _ _ _ (⟨_, some _, _⟩ :: _) _; first | refine go_in (hk := ?_) | refine go_out (hk := ?_) | refine go_void (hk := ?_)) | (show GK _ _ _ _ (blockK _ _ _); refine gk_past rfl ?_) | (show GC _ _ _ _ _ (.cond _ _ _) _; first | refine gc_yes (h1 := ?_) | refine gc_no (h1 := ?_))))
  refine go_callp rfl code_cmp_Compare_int.callable (fun H hH => compare_ok) ?_
  (repeat (first | refine gst (hk := ?_) | (refine gq_call rfl (fun _ => qtCmp_is) ?_) | (show GO _ _ _ _ _ (⟨some _, none, _⟩ :: _) _; first | refine go_op (hk := ?_) | (refine go_nw (hk := ?_); intro u; try simp only [llc, lln, lna, lza]) | (refine go_np (hk := ?_); intro id)) | (show GO _ _ _ _ _ (⟨none, none, _⟩ :: _) _; refine go_st (hk := ?_)) | (show GO _ _ _ _ _ (⟨_, some _, _⟩ :: _) _; first | refine go_in (hk := ?_) | refine go_out (hk := ?_) | refine go_void (hk := ?_)) | (show GK _ _ _ _ (blockK _ _ _); refine gk_past rfl ?_) | (show GC _ _ _ _ _ (.cond _ _ _) _; first | refine gc_yes (h1 := ?_) | refine gc_no (h1 := ?_))))
  exact gk_ret rfl fun H' hH => ⟨rfl, hH.leE⟩

def cellsK {α : Type} (c : α → List AV) : List α → List AV
  | [] => []
  | q :: L => c q ++ cellsK c L

structure Cels {α : Type} (c : α → List AV) (k : Nat) : Prop where
  len : ∀ a, (c a).length = k
  one : ∀ a, (c a).all AV.one = true

theorem ck_len {α : Type} {c : α → List AV} {k : Nat} (h : Cels c k) : ∀ L : List α, (cellsK c L).length = L.length * k
  | [] => by simp [cellsK]
  | q :: L => by rw [cellsK, List.length_append, ck_len h L, h.len, List.length_cons, Nat.add_mul]; omega

theorem ck_app {α : Type} {c : α → List AV} : ∀ L M : List α, cellsK c (L ++ M) = cellsK c L ++ cellsK c M
  | [], M => rfl
  | q :: L, M => by rw [List.cons_append, cellsK, cellsK, ck_app L M, List.append_assoc]

theorem ck_one {α : Type} {c : α → List AV} {k : Nat} (h : Cels c k) : ∀ L : List α, (cellsK c L).all AV.one = true
  | [] => rfl
  | q :: L => by rw [cellsK, List.all_append, ck_one h L, h.one]; rfl

theorem ck_take {α : Type} {c : α → List AV} {k : Nat} (h : Cels c k) : ∀ (L : List α) (i : Nat), (cellsK c L).take (i * k) = cellsK c (L.take i)
  | [], i => by simp [cellsK]
  | q :: L, 0 => by simp [cellsK]
  | q :: L, i + 1 => by
    rw [List.take_succ_cons, cellsK, cellsK, show (i + 1) * k = (c q).length + i * k by rw [h.len, Nat.add_mul]; omega, List.take_length_add_append, ck_take h L i]

theorem ck_drop {α : Type} {c : α → List AV} {k : Nat} (h : Cels c k) : ∀ (L : List α) (i : Nat), (cellsK c L).drop (i * k) = cellsK c (L.drop i)
  | [], i => by simp [cellsK]
  | q :: L, 0 => by simp
  | q :: L, i + 1 => by
    rw [List.drop_succ_cons, cellsK, show (i + 1) * k = (c q).length + i * k by rw [h.len, Nat.add_mul]; omega, List.drop_length_add_append, ck_drop h L i]

def nthA {α : Type} (d : α) (L : List α) (i : Nat) : α := L.getD i d

theorem nthA_of {α : Type} {d : α} {L : List α} {i : Nat} (h : i < L.length) : nthA d L i = L[i] := by
  unfold nthA
  rw [List.getD_eq_getElem?_getD, List.getElem?_eq_getElem h]; rfl

theorem ck_at {α : Type} {c : α → List AV} {k : Nat} (hc : Cels c k) {d : α} {L : List α} {i : Nat} (h : i < L.length) : ((cellsK c L).drop (i * k)).take k = c (nthA d L i) := by
  have h1 := ck_take hc (L.drop i) 1
  rw [Nat.one_mul] at h1
  rw [ck_drop hc, h1, nthA_of h, List.drop_eq_getElem_cons h, List.take_succ_cons]
  simp [cellsK]

theorem packC_agg (ds : List AV) : packC true ds = some (.agg ds) := by unfold packC; split <;> rfl

theorem stp_ldK {α : Type} {c : α → List AV} {k : Nat} (hc : Cels c k) (d : α) {A : Heap} {X : List Nat} {E : List (Nat × AV)} {S : Sig} {p : MX} {v : AV} {n i : Nat} {L : List α} (hp : evE E p = some (v.elem i)) (hh : Has S v k n (cellsK c L)) (hn : n = L.length) (hi : i < L.length) : Stp A X E S (.ld p k true) (Is (.agg (c (nthA d L i))) S) :=
  stp_ldn hp hh (by omega) (ck_at hc hi) (packC_agg _)

theorem stp_appK {α : Type} {c : α → List AV} {k bytes : Nat} (hc : Cels c k) (hk : 0 < k) {A : Heap} {X : List Nat} {E : List (Nat × AV)} {S S0 : Sig} {v w : AV} {x y : MX} {n m' : Nat} {L M : List α} (hx : evE E x = some v) (hy : evE E y = some w) (hs : Sel S ⟨.rw, v, k, n, cellsK c L⟩ S0) (hh : Has S w k m' (cellsK c M)) (hb : (n + m') * bytes ≤ 140737488355328) (hm2 : n + m' ≤ 1000000000000) :
    Stp A X E S (.app x y k bytes) (New fun u => ⟨.rw, u, k, n + m', cellsK c (L ++ M)⟩ :: S0) := by
  simp only [ck_app]
  exact stp_app hx hy hs hh (ck_one hc M) (by omega) (by omega) hm2

/-- a part of a slice of one's own -/
def subW : AV → Nat → Nat → AV
  | .slice id off _ cap es, l, h => .slice id (off + l * es) (h - l) (cap.map (· - l)) es
  | v, _, _ => v

theorem stp_slw {A : Heap} {X : List Nat} {E : List (Nat × AV)} {S S0 : Sig} {x z : MX} {v : AV} {k n l : Nat} {cs : List AV} (hx : evE E x = some v) (hz : evE E z = some (.int .i64 (l : Int))) (hs : Sel S ⟨.rw, v, k, n, cs⟩ S0) (hl : l ≤ n) : Stp A X E S (.sl x (some z) none none k) (Is (subW v l n) S) :=
  stp_pure fun τ H m nid hE hS => by
    have hcc := (hS.sel hs).ch ⟨.rw, v, k, n, cs⟩ (by simp)
    obtain ⟨h1, h2, h3⟩ := hcc
    simp only at h1 h2 h3
    have e1 : bnd n (some (AV.int .i64 (l : Int))) 0 = some l := by
      simp only [bnd]; rw [if_pos (by omega)]; simp
    rcases h3 with ⟨rfl, h3⟩ | ⟨id, rfl, h4, h5⟩
    · subst h3
      simp only [mstep, ev_of hE hx, Option.map_some, Option.map_none, ev_of hE hz, msl, AV.len]
      have e0 : bnd 0 (none : Option AV) 0 = some 0 := rfl
      simp only [e0, e1, subW]; rfl
    · have e0 : bnd n (none : Option AV) n = some n := rfl
      simp only [mstep, ev_of hE hx, Option.map_some, Option.map_none, ev_of hE hz, msl, AV.len, e0, e1, subW]
      simp

def tabS {α : Type} (n : Nat) (f : Nat → α) : List α := (List.range n).map f

theorem tabS_len {α : Type} (n : Nat) (f : Nat → α) : (tabS n f).length = n := by simp [tabS]

theorem tabS_nth {α : Type} {d : α} {n : Nat} {f : Nat → α} {i : Nat} (h : i < n) : nthA d (tabS n f) i = f i := by
  rw [nthA_of (by rw [tabS_len]; exact h)]
  simp [tabS]

def PtsM (xs ys : List Int) (m : Nat) : Prop := (xs.length = ys.length ∧ 1 ≤ xs.length ∧ xs.length ≤ m) ∧ PtsT xs ys xs.length

noncomputable instance (xs ys : List Int) (m : Nat) : Decidable (PtsM xs ys m) := Classical.propDecidable _

theorem Cloud.m {xs ys : List Int} (h : Cloud xs ys) : PtsM xs ys 7 := by
  obtain ⟨⟨h1, h2, h3⟩, i, h4, h5, _⟩ := h
  exact ⟨⟨h2, by omega, h3⟩, h1⟩

/-- what a slice holds stays, in a heap with the same blocks -/
theorem acalls_vals {P : Program} {f : FuncId} {args : List AV} {H H0 : Heap} {R : AV → Heap → Prop} {v : AV} {es n : Nat} {cs : List AV} (hv : Vals H0 v es n cs) (hs : ∀ id, id < H0.size → H.get id = H0.get id) (hn : 0 < n) (h : Vals H v es n cs → ACalls P f args H R) : ACalls P f args H R := by
  cases v with
  | slice id off n' cap es' =>
    have hid := hv.bid id rfl
    have hlen : n' = n := hv.len
    have hrow : H.row (.slice id off n' cap es') = some cs := by
      rw [← hv.row]
      simp only [Heap.row]
      split
      · rfl
      · simp only [Heap.read, hs id hid]
    by_cases hb : id < H.size
    · exact h ⟨hv.sl, hv.len, hv.esn, hv.cells, hrow, fun k hk => by simp only [AV.bid, Option.some.injEq] at hk; omega⟩
    · intro ι w us hh hu
      exfalso
      cases hgg : H.get id with
      | none =>
        simp only [Heap.row, Heap.read, hgg] at hrow
        rw [if_neg (by omega)] at hrow
        cases hrow
      | some b =>
        obtain ⟨r, hr, _⟩ := hh.blk _ b hgg
        rw [hh.fresh _ (by omega)] at hr; cases hr
  | nilSlice =>
    have hlen : 0 = n := hv.len
    omega
  | _ =>
    have := hv.sl
    simp [AV.isSlice] at this

theorem go_nilK {P : Program} {A : Heap} {X : List Nat} {E : List (Nat × AV)} {S : Sig} {l : List MI} {K : St → Prop} (es : Nat) (h : GO P A X E (⟨.rw, .nilSlice, es, 0, []⟩ :: S) l K) : GO P A X E S l K := ⟨fun s hf => h.g s ⟨hf.env, hf.ok.nil es⟩⟩

noncomputable def dOne (args : List AV) (r : AV) : List AV → Option AV := fun a => by
  classical
  exact if a = args then some r else none

theorem dOne_is {args : List AV} {r : AV} : dOne args r args = some r := if_pos rfl

theorem dOne_ok {P : Program} {H : Heap} {f : FuncId} {args : List AV} {r : AV} (hc : Callable P f) (h : ACalls P f args H fun r' H' => r' = r ∧ H' = H) : FamOk P H f (dOne args r) := by
  intro a v hv
  unfold dOne at hv
  split at hv
  · rename_i e
    simp only [Option.some.injEq] at hv; subst hv; subst e
    exact ⟨hc, h⟩
  · cases hv

structure GD4 (P : Program) (Qt : FuncId → List AV → Option AV) (base k : Nat) (A : Heap) (X : List Nat) (E : List (Nat × AV)) (S : Sig) (acc : List (List Nat × List Nat)) (prs : List (Nat × Nat)) (l : List MI) (C : List (List Nat × List Nat) → Prop) (K : St → Prop) : Prop where
  g : ∀ s m, EnvOk E s.τ → SOk A X S m s.H → m ≤ base + k → dopsC P Qt base k l s acc prs C K

theorem gc_drw4 {P : Program} {A : Heap} {X : List Nat} {E : List (Nat × AV)} {S : Sig} {Q : Exit → St → Prop} {prs : List (Nat × Nat)} {l : List MI} (Qt : FuncId → List AV → Option AV) (h : ∀ H0, SOk A X S H0.size H0 → GD4 P Qt H0.size 0 A X E S [] prs l (fun acc => ∀ H, (∀ id, (∀ f ∈ acc, id ∉ f.2) → H.get id = H0.get id) → QtOk P Qt H) (Q .normal)) : GC P A X E S (.drw l prs) Q := by
  refine ⟨fun s hf => ?_⟩
  rw [mwp_drw]
  exact ⟨Qt, (h s.H hf.ok).g _ s.H.size hf.env (hf.ok.same (fun _ _ => rfl) (Nat.le_refl _) (by simp [Heap.ext])) (Nat.le_refl _)⟩

theorem gd4_nil {P : Program} {Qt : FuncId → List AV → Option AV} {base k : Nat} {A : Heap} {X : List Nat} {E : List (Nat × AV)} {S : Sig} {acc : List (List Nat × List Nat)} {prs : List (Nat × Nat)} {C : List (List Nat × List Nat) → Prop} {K : St → Prop} (hp : pairsOk acc prs) (hC : C acc) (h : GK A X E S K) : GD4 P Qt base k A X E S acc prs [] C K :=
  ⟨fun s m hE hS hm => ⟨⟨hp, hC⟩, h.g s ⟨hE, hS.bump hS.mh (Nat.le_refl _)⟩⟩⟩

theorem gd4_is {P : Program} {Qt : FuncId → List AV → Option AV} {base k : Nat} {A : Heap} {X : List Nat} {E : List (Nat × AV)} {S S' : Sig} {acc : List (List Nat × List Nat)} {prs : List (Nat × Nat)} {C : List (List Nat × List Nat) → Prop} {K : St → Prop} {r : List MI} {d : Nat} {v : AV} {op : MOp} (hq : (!op.isCall && !writes op && !reads op) = true) (hs : Stp A X E S op (Is v S')) (hk : GD4 P Qt base (k + 1) A X ((d, v) :: E) S' (acc ++ [([], [])]) prs r C K) : GD4 P Qt base k A X E S acc prs (⟨some d, none, op⟩ :: r) C K := by
  have hp : op.isCall = false := by simp at hq; exact hq.1.1
  refine ⟨fun s m hE hS hm => ?_⟩
  obtain ⟨v', S'', H', m', ⟨rfl, rfl⟩, h2, h3, h4, h5, h6⟩ := hs.stp s.τ s.H m (base + k) hE hS hm
  simp only [dopsC, dstep_plain2 hp, h2, (quiet_foot hq s.τ (base + k)).1, (quiet_foot hq s.τ (base + k)).2]
  exact hk.g _ m' (look_cons hE d _) h3 (by omega)

theorem gd4_ld {P : Program} {Qt : FuncId → List AV → Option AV} {base k : Nat} {A : Heap} {X : List Nat} {E : List (Nat × AV)} {S : Sig} {acc : List (List Nat × List Nat)} {prs : List (Nat × Nat)} {C : List (List Nat × List Nat) → Prop} {K : St → Prop} {r : List MI} {d n : Nat} {v u : AV} {p : MX} {b : Bool} (hp : evE E p = some u) (hs : Stp A X E S (.ld p n b) (Is v S)) (hk : GD4 P Qt base (k + 1) A X ((d, v) :: E) S (acc ++ [(vid u, [])]) prs r C K) : GD4 P Qt base k A X E S acc prs (⟨some d, none, .ld p n b⟩ :: r) C K := by
  refine ⟨fun s m hE hS hm => ?_⟩
  obtain ⟨v', S'', H', m', ⟨rfl, rfl⟩, h2, h3, h4, h5, h6⟩ := hs.stp s.τ s.H m (base + k) hE hS hm
  have hd0 : dstep P Qt (base + k) ⟨some d, none, (.ld p n b)⟩ s = mstep (base + k) s.τ s.H (.ld p n b) := dstep_plain2 rfl
  have hf : foot s.τ (.ld p n b) = vid u := by simp only [foot, ev_of hE hp]
  have ht : touch (base + k) s.τ (.ld p n b) = [] := rfl
  simp only [dopsC, hd0, h2, hf, ht]
  exact hk.g _ m' (look_cons hE d _) h3 (by omega)

theorem gd4_call {P : Program} {Qt : FuncId → List AV → Option AV} {base k : Nat} {A : Heap} {X : List Nat} {E : List (Nat × AV)} {S : Sig} {acc : List (List Nat × List Nat)} {prs : List (Nat × Nat)} {C : List (List Nat × List Nat) → Prop} {K : St → Prop} {r : List MI} {d : Nat} {v : AV} {f : FuncId} {args : List MX} {vs : List AV} (ha : evsE E args = some vs) (hq : Qt f vs = some v) (hk : GD4 P Qt base (k + 1) A X ((d, v) :: E) S (acc ++ [([], [])]) prs r C K) : GD4 P Qt base k A X E S acc prs (⟨some d, none, .call f args⟩ :: r) C K := by
  refine ⟨fun s m hE hS hm => ?_⟩
  have e : dstep P Qt (base + k) ⟨some d, none, .call f args⟩ s = some (v, s.H) := by
    simp only [dstep, gcheck, mcallee, evs_of hE ha, hq]
  simp only [dopsC, e]
  exact hk.g _ m (look_cons hE d _) hS (by omega)

theorem gd4_new {P : Program} {Qt : FuncId → List AV → Option AV} {base k : Nat} {A : Heap} {X : List Nat} {E : List (Nat × AV)} {S : Sig} {acc : List (List Nat × List Nat)} {prs : List (Nat × Nat)} {C : List (List Nat × List Nat) → Prop} {K : St → Prop} {r : List MI} {d : Nat} {z : List AV} (hk : GD4 P Qt base (k + 1) A X ((d, .ptr (base + k) 0) :: E) (⟨.cell, .ptr (base + k) 0, z.length, 1, z⟩ :: S) (acc ++ [([], [base + k])]) prs r C K) : GD4 P Qt base k A X E S acc prs (⟨some d, none, .new z⟩ :: r) C K := by
  refine ⟨fun s m hE hS hm => ?_⟩
  obtain ⟨v', S'', H', m', hN, h2, h3, h4, h5, h6⟩ := (stp_new (A := A) (X := X) (E := E) (S := S) (z := z)).stp s.τ s.H m (base + k) hE hS hm
  have hd0 : dstep P Qt (base + k) ⟨some d, none, (.new z)⟩ s = mstep (base + k) s.τ s.H (.new z) := dstep_plain2 rfl
  have hv : v' = .ptr (base + k) 0 := by
    simp only [mstep, Option.some.injEq, Prod.mk.injEq] at h2
    exact h2.1.symm
  obtain ⟨id, hid, rfl⟩ := hN
  rw [hv] at hid h2
  simp only [AV.ptr.injEq, and_true] at hid
  subst hid
  simp only [dopsC, hd0, h2]
  exact hk.g _ m' (look_cons hE d _) h3 (by omega)

theorem gd4_st {P : Program} {Qt : FuncId → List AV → Option AV} {base k : Nat} {A : Heap} {X : List Nat} {E : List (Nat × AV)} {S S' : Sig} {acc : List (List Nat × List Nat)} {prs : List (Nat × Nat)} {C : List (List Nat × List Nat) → Prop} {K : St → Prop} {r : List MI} {n : Nat} {v u : AV} {p x : MX} (hp : evE E p = some u) (hs : Stp A X E S (.st p x n) (Is v S')) (hk : GD4 P Qt base (k + 1) A X E S' (acc ++ [(vid u, vid u)]) prs r C K) : GD4 P Qt base k A X E S acc prs (⟨none, none, .st p x n⟩ :: r) C K := by
  refine ⟨fun s m hE hS hm => ?_⟩
  obtain ⟨v', S'', H', m', ⟨rfl, rfl⟩, h2, h3, h4, h5, h6⟩ := hs.stp s.τ s.H m (base + k) hE hS hm
  have hd0 : dstep P Qt (base + k) ⟨none, none, (.st p x n)⟩ s = mstep (base + k) s.τ s.H (.st p x n) := dstep_plain2 rfl
  have hf : foot s.τ (.st p x n) = vid u := by simp only [foot, ev_of hE hp]
  have ht : touch (base + k) s.τ (.st p x n) = vid u := by simp only [touch, ev_of hE hp]
  simp only [dopsC, hd0, h2, hf, ht]
  exact hk.g _ m' hE h3 (by omega)
/- a part of what a slice holds -/

theorem vals_sub {α : Type} {c : α → List AV} {k : Nat} (hc : Cels c k) {H : Heap} {v : AV} {n l : Nat} {L : List α} (hv : Vals H v k n (cellsK c L)) (hn : n = L.length) (hl : l ≤ n) : Vals H (subW v l n) k (n - l) (cellsK c (L.drop l)) := by
  have hbid : ∀ j, (subW v l n).bid = some j → v.bid = some j := by
    intro j hj
    cases v <;> first | exact hj | (simp [subW, AV.bid] at hj; done)
  have hcl : (cellsK c (L.drop l)).length = (n - l) * k := by rw [ck_len hc, List.length_drop, hn]
  cases v with
  | slice id off n' cap es =>
    have e1 : n' = n := hv.len
    have e2 : es = k := by
      rcases hv.esn with h | h
      · cases h
      · simpa [AV.es] using h
    subst e1; subst e2
    refine ⟨rfl, rfl, .inr rfl, hcl, ?_, fun j hj => hv.bid j (hbid j hj)⟩
    have hr := hv.row
    simp only [subW, Heap.row] at hr ⊢
    by_cases h0 : n' - l = 0
    · rw [if_pos h0]
      have : L.drop l = [] := List.drop_eq_nil_of_le (by omega)
      rw [this]; rfl
    · rw [if_neg (by omega)] at hr
      rw [if_neg h0]
      simp only [Heap.read] at hr ⊢
      split at hr
      · rename_i b hb
        split at hr
        · rename_i h1
          simp only [Option.some.injEq] at hr
          have hm : l * es + (n' - l) * es = n' * es := by rw [← Nat.add_mul]; congr 1; omega
          rw [if_pos (by omega), ← ck_drop hc, ← hr, List.drop_take, List.drop_drop, show n' * es - l * es = (n' - l) * es by omega]
        · cases hr
      · cases hr
  | nilSlice =>
    have e1 : 0 = n := hv.len
    subst e1
    have : L = [] := List.eq_nil_of_length_eq_zero hn.symm
    subst this
    have h0 : l = 0 := by omega
    subst h0
    exact hv
  | _ => exact absurd hv.sl (by simp [AV.isSlice])
/- the pairs of points, in their order -/

theorem tabS_nthR {n : Nat} {f : Nat → Rat} {i : Nat} (h : i < n) : nthR (tabS n f) i = f i := tabS_nth (d := 0) h

noncomputable def opN (p : Prop) (q : Rat) : Int := by
  classical
  exact if p then q.num else 0

noncomputable def opD (p : Prop) (q : Rat) : Int := by
  classical
  exact if p then (q.den : Int) else 0

noncomputable abbrev opV (p : Prop) (q : Rat) : AV := .agg [.int .i64 (opN p q), .int .i64 (opD p q)]

theorem opV_yes {p : Prop} {q : Rat} (h : p) : opV p q = frV q := by
  unfold opV opN opD; rw [if_pos h, if_pos h]; rfl

theorem opV_no {p : Prop} {q : Rat} (h : ¬ p) : opV p q = fr0 := by
  unfold opV opN opD; rw [if_neg h, if_neg h]

theorem go_sub {P : Program} {A : Heap} {X : List Nat} {E : List (Nat × AV)} {S S' : Sig} {l : List MI} {K : St → Prop} (hs : Sub S S') (h : GO P A X E S' l K) : GO P A X E S l K := ⟨fun s hf => h.g s ⟨hf.env, hf.ok.sub hs⟩⟩
/- an element's fields -/

theorem Pts.neg {xs ys : List Int} (h : Pts xs ys) : Pts xs (ys.map (- ·)) := by
  obtain ⟨h1, h2, h3⟩ := h
  refine ⟨fun i hi => ?_, by simp [h2], h3⟩
  have h4 := h1 i hi
  rw [getD_map _ (by omega)]
  exact ⟨by simp; omega, h4.2.1, by omega⟩

theorem Cloud.neg {xs ys : List Int} (h : Cloud xs ys) : Cloud xs (ys.map (- ·)) := ⟨h.1.neg, h.2⟩
/- slopes of what is turned, of what is negated -/

theorem nth_take {xs : List Int} {m i : Nat} (h : i < m) : nth (xs.take m) i = nth xs i := by
  unfold nth
  simp [List.getD, List.getElem?_take_of_lt h]

theorem Pts.take {xs ys : List Int} (h : Pts xs ys) (m : Nat) : Pts (xs.take m) (ys.take m) := by
  obtain ⟨h1, h2, h3⟩ := h
  refine ⟨fun i hi => ?_, by simp [h2], by simp; omega⟩
  rw [List.length_take] at hi
  have h4 := h1 i (by omega)
  rw [nth_take (by omega), nth_take (by omega), List.length_take]
  exact ⟨by omega, h4.2⟩

theorem CvOk.take {xs ys : List Int} (h : CvOk xs ys) {m : Nat} (h1 : 1 ≤ m) (hm : m ≤ xs.length) : CvOk (xs.take m) (ys.take m) := by
  have h5 := h.1.2
  have hl : (xs.take m).length = m := by rw [List.length_take]; omega
  refine ⟨⟨h.1.1.take m, by rw [hl]; omega⟩, fun i hi k hk => ?_⟩
  rw [hl] at hi
  rw [nth_take (by omega), nth_take (by omega)]
  exact h.2 i (by omega) k hk

theorem leTot (a b : Rat) : a ≤ b ∨ b ≤ a := Rat.le_total

theorem le_divR {a c d : Rat} (hd : 0 < d) : c ≤ a / d ↔ c * d ≤ a := by
  have hn : d ≠ 0 := by grind
  have h1 : a / d * d = a := Rat.div_mul_cancel hn
  constructor
  · intro h
    have := Rat.mul_le_mul_of_nonneg_right h (Rat.le_of_lt hd)
    rw [h1] at this; exact this
  · intro h
    rcases leTot c (a / d) with h2 | h2
    · exact h2
    · have := Rat.mul_le_mul_of_nonneg_right h2 (Rat.le_of_lt hd)
      rw [h1] at this
      have h3 : c * d = a := Rat.le_antisymm h this
      have : c = a / d := by rw [← h3, Rat.div_def, Rat.mul_assoc, Rat.mul_inv_cancel _ hn, Rat.mul_one]
      rw [this]; exact Rat.le_refl

theorem div_leR {a c d : Rat} (hd : 0 < d) : a / d ≤ c ↔ a ≤ c * d := by
  have hn : d ≠ 0 := by grind
  have h1 : a / d * d = a := Rat.div_mul_cancel hn
  constructor
  · intro h
    have := Rat.mul_le_mul_of_nonneg_right h (Rat.le_of_lt hd)
    rw [h1] at this; exact this
  · intro h
    rcases leTot (a / d) c with h2 | h2
    · exact h2
    · have := Rat.mul_le_mul_of_nonneg_right h2 (Rat.le_of_lt hd)
      rw [h1] at this
      have h3 : c * d = a := Rat.le_antisymm this h
      have : c = a / d := by rw [← h3, Rat.div_def, Rat.mul_assoc, Rat.mul_inv_cancel _ hn, Rat.mul_one]
      rw [this]; exact Rat.le_refl

def mnA (S W : Nat → Rat) (i e : Nat) : Rat := (S e - S i) / (W e - W i)

def AscW (W : Nat → Rat) (n : Nat) : Prop := ∀ i, i < n → W i < W (i + 1)

theorem AscW.lt {W : Nat → Rat} {n : Nat} (h : AscW W n) {i : Nat} : ∀ {j}, i < j → j ≤ n → W i < W j
  | 0, h1, _ => absurd h1 (Nat.not_lt_zero _)
  | j + 1, h1, h2 => by
    have := h j h2
    rcases Nat.lt_or_ge i j with h3 | h3
    · have := h.lt (j := j) h3 (by omega); grind
    · rw [show i = j by omega]; exact this

theorem AscW.le {W : Nat → Rat} {n : Nat} (h : AscW W n) {i j : Nat} (h1 : i ≤ j) (h2 : j ≤ n) : W i ≤ W j := by
  rcases Nat.lt_or_ge i j with h3 | h3
  · exact Rat.le_of_lt (h.lt h3 h2)
  · rw [show i = j by omega]; exact Rat.le_refl

theorem AscW.sub {W : Nat → Rat} {n m : Nat} (h : AscW W n) (hm : m ≤ n) : AscW W m := fun i hi => h i (by omega)

theorem mnA_mul {S W : Nat → Rat} {i e : Nat} (h : W i < W e) : mnA S W i e * (W e - W i) = S e - S i := Rat.div_mul_cancel (by grind)

theorem le_mnA {S W : Nat → Rat} {i e : Nat} {c : Rat} (h : W i < W e) : c ≤ mnA S W i e ↔ c * (W e - W i) ≤ S e - S i := le_divR (by grind)

theorem mnA_le {S W : Nat → Rat} {i e : Nat} {c : Rat} (h : W i < W e) : mnA S W i e ≤ c ↔ S e - S i ≤ c * (W e - W i) := div_leR (by grind)

theorem mulR_le {a b d : Rat} (hd : 0 ≤ d) (h : a ≤ b) : a * d ≤ b * d := Rat.mul_le_mul_of_nonneg_right h hd

def Bks (S W : Nat → Rat) : List Nat → Nat → Prop
  | [], e => e = 0
  | a :: r, e => a < e ∧ (∀ t, a ≤ t → t ≤ e → mnA S W a e * (W t - W a) ≤ S t - S a) ∧ Bks S W r a

def Inc (S W : Nat → Rat) : List Nat → Nat → Prop
  | [], _ => True
  | [_], _ => True
  | a :: b :: r, e => mnA S W b a < mnA S W a e ∧ Inc S W (b :: r) a

theorem Bks.len {S W : Nat → Rat} : ∀ {r : List Nat} {e}, Bks S W r e → r.length ≤ e
  | [], _, h => by simp
  | a :: r, e, h => by
    have := Bks.len h.2.2
    have := h.1
    simp only [List.length_cons]; omega

/-- two blocks joined -/
theorem Bks.join {S W : Nat → Rat} {n : Nat} (hW : AscW W n) {a b e : Nat} {r : List Nat} (he : e ≤ n) (h : Bks S W (a :: b :: r) e) (hm : mnA S W a e ≤ mnA S W b a) : Bks S W (b :: r) e := by
  obtain ⟨h1, h2, h3, h4, h5⟩ := h
  refine ⟨by omega, ?_, h5⟩
  have wba := hW.lt h3 (by omega)
  have wae := hW.lt h1 he
  have wbe : W b < W e := by grind
  have p := mnA_mul (S := S) wba
  have q := mnA_mul (S := S) wae
  have m := mnA_mul (S := S) wbe
  have m1 : mnA S W b e ≤ mnA S W b a := (mnA_le wbe).2 (by
    have := mulR_le (d := W e - W a) (by grind) hm
    grind)
  have m2 : mnA S W a e ≤ mnA S W b e := (le_mnA wbe).2 (by
    have := mulR_le (d := W a - W b) (by grind) hm
    grind)
  intro t ht ht2
  rcases Nat.le_total t a with h6 | h6
  · have := h4 t ht h6
    have wt := hW.le ht (by omega)
    have := mulR_le (d := W t - W b) (by grind) m1
    grind
  · have := h2 t h6 ht2
    have wt := hW.le ht2 he
    have := mulR_le (d := W e - W t) (by grind) m2
    grind

/-- the block's mean at each place -/
def fitB (S W : Nat → Rat) : List Nat → Nat → Nat → Rat
  | [], _, _ => 0
  | a :: r, e, j => if a ≤ j then mnA S W a e else fitB S W r a j

def popS (S W : Nat → Rat) (e : Nat) : List Nat → List Nat
  | a :: b :: r => if mnA S W b a < mnA S W a e then a :: b :: r else popS S W e (b :: r)
  | l => l

def poS (S W : Nat → Rat) : Nat → List Nat
  | 0 => []
  | k + 1 => popS S W (k + 1) (k :: poS S W k)

theorem popS_ok {S W : Nat → Rat} {n : Nat} (hW : AscW W n) {e : Nat} (he : e ≤ n) : ∀ {r : List Nat} {a : Nat}, Bks S W (a :: r) e → (∀ b r', r = b :: r' → Inc S W (b :: r') a) → ∃ a' r', popS S W e (a :: r) = a' :: r' ∧ Bks S W (a' :: r') e ∧ Inc S W (a' :: r') e
  | [], a, h, _ => ⟨a, [], rfl, h, trivial⟩
  | b :: r, a, h, hi => by
    rw [show popS S W e (a :: b :: r) = if mnA S W b a < mnA S W a e then a :: b :: r else popS S W e (b :: r) from rfl]
    by_cases hc : mnA S W b a < mnA S W a e
    · rw [if_pos hc]; exact ⟨a, b :: r, rfl, h, hc, hi b r rfl⟩
    · rw [if_neg hc]
      have hj := h.join hW he (Rat.not_lt.1 hc)
      refine popS_ok hW he hj fun b' r' hr => ?_
      subst hr
      exact (hi b _ rfl).2

theorem poS_ok {S W : Nat → Rat} {n : Nat} (hW : AscW W n) : ∀ {k}, k ≤ n → Bks S W (poS S W k) k ∧ Inc S W (poS S W k) k
  | 0, _ => ⟨rfl, trivial⟩
  | k + 1, hk => by
    have ih := poS_ok (S := S) hW (k := k) (by omega)
    have hB : Bks S W (k :: poS S W k) (k + 1) := by
      refine ⟨by omega, fun t h1 h2 => ?_, ih.1⟩
      have w := hW k hk
      have q := mnA_mul (S := S) w
      rcases Nat.lt_or_ge k t with h3 | h3
      · obtain rfl : t = k + 1 := by omega
        grind
      · obtain rfl : t = k := by omega
        grind
    obtain ⟨a', r', e1, e2, e3⟩ := popS_ok hW hk hB fun b r' hr => by rw [← hr]; exact ih.2
    show Bks S W (popS S W (k + 1) (k :: poS S W k)) _ ∧ Inc S W (popS S W (k + 1) (k :: poS S W k)) _
    rw [e1]; exact ⟨e2, e3⟩

theorem fitB_ge {S W : Nat → Rat} {a : Nat} {r : List Nat} {e j : Nat} (h : a ≤ j) : fitB S W (a :: r) e j = mnA S W a e := by
  rw [show fitB S W (a :: r) e j = if a ≤ j then mnA S W a e else fitB S W r a j from rfl, if_pos h]

theorem fitB_lt {S W : Nat → Rat} {a : Nat} {r : List Nat} {e j : Nat} (h : j < a) : fitB S W (a :: r) e j = fitB S W r a j := by
  rw [show fitB S W (a :: r) e j = if a ≤ j then mnA S W a e else fitB S W r a j from rfl, if_neg (by omega)]

noncomputable def fitS (S W : Nat → Rat) (r : List Nat) (e t : Nat) : Rat := sumR (fun i => fitB S W r e i * (W (i + 1) - W i)) t

theorem fitS_lt {S W : Nat → Rat} {a : Nat} {r : List Nat} {e t : Nat} (h : t ≤ a) : fitS S W (a :: r) e t = fitS S W r a t :=
  sumR_congr fun i hi => by rw [fitB_lt (by omega)]

theorem fitS_ge {S W : Nat → Rat} {a : Nat} {r : List Nat} {e : Nat} : ∀ {t}, a ≤ t → fitS S W (a :: r) e t = fitS S W r a a + mnA S W a e * (W t - W a) := by
  intro t ht
  obtain ⟨d, rfl⟩ := Nat.exists_eq_add_of_le ht
  clear ht
  induction d with
  | zero => rw [Nat.add_zero, fitS_lt (Nat.le_refl a)]; grind
  | succ d ih =>
    have ht : a ≤ a + d := by omega
    rw [← Nat.add_assoc]
    revert ih ht
    generalize a + d = t
    intro ih ht
    rw [show fitS S W (a :: r) e (t + 1) = fitS S W (a :: r) e t + fitB S W (a :: r) e t * (W (t + 1) - W t) from rfl, ih, fitB_ge ht]; grind

theorem Bks.sums {S W : Nat → Rat} {n : Nat} (hW : AscW W n) : ∀ {r : List Nat} {e : Nat}, e ≤ n → Bks S W r e → (∀ t, t ≤ e → fitS S W r e t ≤ S t - S 0) ∧ fitS S W r e e = S e - S 0
  | [], e, _, h => by
    obtain rfl : e = 0 := h
    have : fitS S W [] 0 0 = 0 := rfl
    refine ⟨fun t ht => ?_, by rw [this]; grind⟩
    obtain rfl : t = 0 := by omega
    rw [this]; grind
  | a :: r, e, he, h => by
    obtain ⟨h1, h2, h3⟩ := h
    obtain ⟨i1, i2⟩ := Bks.sums hW (by omega) h3
    refine ⟨fun t ht => ?_, ?_⟩
    · rcases Nat.le_total t a with h4 | h4
      · rw [fitS_lt h4]; exact i1 t h4
      · rw [fitS_ge h4, i2]
        have := h2 t h4 ht; grind
    · rw [fitS_ge (by omega), i2]
      have := mnA_mul (S := S) (hW.lt h1 he); grind

def Loads (xs ws : List Int) : Prop := (∀ w ∈ ws, 1 ≤ w ∧ w ≤ 5) ∧ Bd 30 xs ∧ xs.length = ws.length ∧ 1 ≤ xs.length ∧ xs.length ≤ 8

noncomputable instance (xs ws : List Int) : Decidable (Loads xs ws) := Classical.propDecidable _

def rS (xs ws : List Int) (t : Nat) : Rat := ((dotT xs ws t : Int) : Rat)

def rW (ws : List Int) (t : Nat) : Rat := ((sumI ws t : Int) : Rat)

theorem Loads.w {xs ws : List Int} (h : Loads xs ws) {i : Nat} (hi : i < xs.length) : 1 ≤ nth ws i ∧ nth ws i ≤ 5 := by
  have h1 : i < ws.length := by have := h.2.2.1; omega
  rw [nth_of h1]; exact h.1 _ (List.getElem_mem h1)

theorem Loads.x {xs ws : List Int} (h : Loads xs ws) (i : Nat) : -30 ≤ nth xs i ∧ nth xs i ≤ 30 := h.2.1.nth (by omega) i

theorem Loads.sums {xs ws : List Int} (h : Loads xs ws) {i : Nat} : ∀ {e}, i ≤ e → e ≤ xs.length →
    (((e - i : Nat) : Int) ≤ sumI ws e - sumI ws i ∧ sumI ws e - sumI ws i ≤ 5 * ((e - i : Nat) : Int)) ∧ (-(30 * (sumI ws e - sumI ws i)) ≤ dotT xs ws e - dotT xs ws i ∧ dotT xs ws e - dotT xs ws i ≤ 30 * (sumI ws e - sumI ws i))
  | 0, h1, _ => by obtain rfl : i = 0 := by omega
                   simp
  | e + 1, h1, h2 => by
    rcases Nat.lt_or_ge e i with h3 | h3
    · obtain rfl : i = e + 1 := by omega
      simp
    · have ih := h.sums (i := i) (e := e) h3 (by omega)
      have hw := h.w (i := e) (by omega)
      have hx := h.x e
      have m1 : nth xs e * nth ws e ≤ 30 * nth ws e := Int.mul_le_mul_of_nonneg_right hx.2 (by omega)
      have m2 : -30 * nth ws e ≤ nth xs e * nth ws e := Int.mul_le_mul_of_nonneg_right hx.1 (by omega)
      rw [show sumI ws (e + 1) = sumI ws e + nth ws e from rfl, show dotT xs ws (e + 1) = dotT xs ws e + nth xs e * nth ws e from rfl]
      generalize nth xs e * nth ws e = p at *
      omega

theorem Loads.pos {xs ws : List Int} (h : Loads xs ws) {i e : Nat} (h1 : i < e) (h2 : e ≤ xs.length) : 1 ≤ sumI ws e - sumI ws i ∧ sumI ws e - sumI ws i ≤ 40 := by
  have := (h.sums (i := i) (e := e) (by omega) h2).1
  have := h.2.2.2.2
  omega

theorem Loads.asc {xs ws : List Int} (h : Loads xs ws) : AscW (rW ws) xs.length := fun i hi => by
  have := h.pos (i := i) (e := i + 1) (by omega) hi
  exact Rat.intCast_lt_intCast.2 (by omega)

def Dv (q : Rat) (D : Int) : Prop := 0 < D ∧ ∃ k : Int, q * (D : Rat) = (k : Rat)

theorem Dv.lift {q : Rat} {D m : Int} (h : Dv q D) (hm : 0 < m) : Dv q (D * m) := by
  obtain ⟨h1, k, h2⟩ := h
  exact ⟨Int.mul_pos h1 hm, k * m, by rw [Rat.intCast_mul, Rat.intCast_mul, ← Rat.mul_assoc, h2]⟩

theorem Dv.add {p q : Rat} {D : Int} (h : Dv p D) (h' : Dv q D) : Dv (p + q) D := by
  obtain ⟨h1, k, h2⟩ := h
  obtain ⟨_, l, h3⟩ := h'
  exact ⟨h1, k + l, by rw [Rat.intCast_add, ← h2, ← h3]; grind⟩

theorem Dv.mul {p q : Rat} {D E : Int} (h : Dv p D) (h' : Dv q E) : Dv (p * q) (D * E) := by
  obtain ⟨h1, k, h2⟩ := h
  obtain ⟨h4, l, h3⟩ := h'
  exact ⟨Int.mul_pos h1 h4, k * l, by rw [Rat.intCast_mul, Rat.intCast_mul, ← h2, ← h3]; grind⟩

theorem Dv.int (n : Int) : Dv (n : Rat) 1 := ⟨by omega, n, by simp⟩

theorem Dv.to {q : Rat} {D E : Int} (h : Dv q D) (e : D = E) : Dv q E := e ▸ h

theorem Loads.blk {xs ws : List Int} (h : Loads xs ws) : Bks (rS xs ws) (rW ws) (poS (rS xs ws) (rW ws) xs.length) xs.length ∧ Inc (rS xs ws) (rW ws) (poS (rS xs ws) (rW ws) xs.length) xs.length := poS_ok h.asc (Nat.le_refl _)

def sumY (g : Nat → Int) : Nat → Int
  | 0 => 0
  | n + 1 => sumY g n + g n

theorem dopsC_mono {P : Program} {Qt : FuncId → List AV → Option AV} {base : Nat} {C C' : List (List Nat × List Nat) → Prop} {K : St → Prop} {prs : List (Nat × Nat)} (hC : ∀ acc, C acc → C' acc) : ∀ {l : List MI} {k : Nat} {s : St} {acc : List (List Nat × List Nat)}, dopsC P Qt base k l s acc prs C K → dopsC P Qt base k l s acc prs C' K
  | [], k, s, acc, h => ⟨⟨h.1.1, hC acc h.1.2⟩, h.2⟩
  | m :: r, k, s, acc, h => by
    simp only [dopsC] at h ⊢
    split at h
    · exact dopsC_mono hC h
    · exact h.elim

theorem gc_drw4n {P : Program} {A : Heap} {X : List Nat} {E : List (Nat × AV)} {S : Sig} {Q : Exit → St → Prop} {prs : List (Nat × Nat)} {l : List MI} (Qt : FuncId → List AV → Option AV) (hQ : ∀ H0 H, SOk A X S H0.size H0 → (∀ id, id < H0.size → H.get id = H0.get id) → QtOk P Qt H)
    (h : ∀ H0, SOk A X S H0.size H0 → GD4 P Qt H0.size 0 A X E S [] prs l (fun acc => ∀ f ∈ acc, ∀ id ∈ f.2, H0.size ≤ id) (Q .normal)) : GC P A X E S (.drw l prs) Q :=
  gc_drw4 Qt fun H0 hH0 => ⟨fun s m h1 h2 h3 => dopsC_mono (fun acc ha H hH => hQ H0 H hH0 fun id hid => hH id fun f hf h4 => absurd (ha f hf id h4) (by omega)) ((h H0 hH0).g s m h1 h2 h3)⟩

theorem pairs_on {fs : List (List Nat × List Nat)} {i j k base : Nat} {fi : List Nat} {r : List (Nat × Nat)} (hi : fs[i]? = some (fi, [])) (hj : fs[j]? = some ([], [base + k])) (h : ∀ id ∈ fi, id < base) (hr : pairsOk fs r) : pairsOk fs ((i, j) :: r) :=
  pairs_one hi hj (by simp) (fun id h1 h2 => by simp only [List.mem_singleton] at h1; have := h id h2; omega) hr

theorem vid_old {A : Heap} {X : List Nat} {S : Sig} {H0 : Heap} {v : AV} {es n : Nat} {cs : List AV} {i : Nat} (h : SOk A X S H0.size H0) (hh : Has S v es n cs) : ∀ j ∈ vid (v.elem i), j < H0.size := by
  intro j hj
  refine (h.valsA hh).bid j ?_
  cases v <;> simp [AV.elem, vid] at hj <;> simp [AV.bid, hj]

theorem gd4_op {P : Program} {Qt : FuncId → List AV → Option AV} {base k : Nat} {A : Heap} {X : List Nat} {E : List (Nat × AV)} {S S' : Sig} {acc : List (List Nat × List Nat)} {prs : List (Nat × Nat)} {C : List (List Nat × List Nat) → Prop} {K : St → Prop} {r : List MI} {d : Nat} {v : AV} {op : MOp} (hs : Stp A X E S op (Is v S') := by exact stp_auto) (hq : (!op.isCall && !writes op && !reads op) = true := by exact rfl) (hk : GD4 P Qt base (k + 1) A X ((d, v) :: E) S' (acc ++ [([], [])]) prs r C K) : GD4 P Qt base k A X E S acc prs (⟨some d, none, op⟩ :: r) C K := gd4_is hq hs hk

theorem Loads.take {xs ws : List Int} (h : Loads xs ws) {k : Nat} (h1 : 1 ≤ k) (h2 : k ≤ xs.length) : Loads (xs.take k) (ws.take k) := by
  obtain ⟨g1, g2, g3, g4, g5⟩ := h
  exact ⟨fun w hw => g1 w (List.mem_of_mem_take hw), fun x hx => g2 x (List.mem_of_mem_take hx), by rw [List.length_take, List.length_take]; omega, by rw [List.length_take]; omega, by rw [List.length_take]; omega⟩

theorem has_k {k : Kd} (h : k = .rw ∨ k = .ro) {S : Sig} {v : AV} {es n : Nat} {cs : List AV} : Has (⟨k, v, es, n, cs⟩ :: S) v es n cs := by
  rcases h with rfl | rfl
  · exact .rw
  · exact .ro

theorem has_memk {S : Sig} {c : Ch} (hc : c ∈ S) (h : c.k = .rw ∨ c.k = .ro) : Has S c.v c.es c.n c.cs := by
  induction S with
  | nil => simp at hc
  | cons d S ih =>
    rcases List.mem_cons.1 hc with rfl | hc
    · obtain ⟨k, v, es, n, cs⟩ := c
      exact has_k h
    · exact .tail (ih hc)
/- windows: parts of a slice that has no room behind them -/

def Steps (xs : List Int) : Prop := Bd 30 xs ∧ 1 ≤ xs.length ∧ xs.length ≤ 8

noncomputable instance (xs : List Int) : Decidable (Steps xs) := Classical.propDecidable _

theorem Steps.x {xs : List Int} (h : Steps xs) (j : Nat) : -30 ≤ nth xs j ∧ nth xs j ≤ 30 := h.1.nth (by omega) j

theorem validHeights_ok {H : Heap} {a : AV} {xs : List Int} (ha : Ints H a xs) (hl : xs.length ≤ 1000000000) :
    ACalls Try.prog fn_impl_validHeights [a] H fun r H' => r = .bool (decide (Steps xs)) ∧ H' = H := by
  refine ACalls.val ?_ rfl
  refine code_impl_validHeights.go [.roI a xs.length xs] ⟨⟨rfl, ha⟩, trivial⟩ (by simp) ?_
  unfold mc_impl_validHeights
  have no : (Steps xs → False) → decide (Steps xs) = false := fun h => decide_eq_false h
  (repeat (first | refine gst (hk := ?_) | (show GO _ _ _ _ _ (⟨some _, none, _⟩ :: _) _; first | refine go_op (hk := ?_) | (refine go_nw (hk := ?_); intro u; try simp only [llc, lln, lna, lza]) | (refine go_np (hk := ?_); intro id)) | (show GO _ _ _ _ _ (⟨none, none, _⟩ :: _) _; refine go_st (hk := ?_)) | (show GO _ _ _ _ _ (⟨_, some _, _⟩ :: _) _; first | refine go_in (hk := ?_) | refine go_out (hk := ?_) | refine go_void (hk := ?_)) | (show GK _ _ _ _ (blockK _ _ _); refine gk_past rfl ?_) | (show GC _ _ _ _ _ (.cond _ _ _) _; first | refine gc_yes (h1 := ?_) | refine gc_no (h1 := ?_))))
  refine go_split 8 rfl (fun h1 => ?_) (fun h1 => ?_)
  · (repeat (first | refine gst (hk := ?_) | (show GO _ _ _ _ _ (⟨some _, none, _⟩ :: _) _; first | refine go_op (hk := ?_) | (refine go_nw (hk := ?_); intro u; try simp only [llc, lln, lna, lza]) | (refine go_np (hk := ?_); intro id)) | (show GO _ _ _ _ _ (⟨none, none, _⟩ :: _) _; refine go_st (hk := ?_)) | (show GO _ _ _ _ _ (⟨_, some _, _⟩ :: _) _; first | refine go_in (hk := ?_) | refine go_out (hk := ?_) | refine go_void (hk := ?_)) | (show GK _ _ _ _ (blockK _ _ _); refine gk_past rfl ?_) | (show GC _ _ _ _ _ (.cond _ _ _) _; first | refine gc_yes (h1 := ?_) | refine gc_no (h1 := ?_))))
    exact gk_ret rfl fun H' hH => ⟨by rw [no fun h => by have := h.2.1; omega]; rfl, hH.leE⟩
  (repeat (first | refine gst (hk := ?_) | (show GO _ _ _ _ _ (⟨some _, none, _⟩ :: _) _; first | refine go_op (hk := ?_) | (refine go_nw (hk := ?_); intro u; try simp only [llc, lln, lna, lza]) | (refine go_np (hk := ?_); intro id)) | (show GO _ _ _ _ _ (⟨none, none, _⟩ :: _) _; refine go_st (hk := ?_)) | (show GO _ _ _ _ _ (⟨_, some _, _⟩ :: _) _; first | refine go_in (hk := ?_) | refine go_out (hk := ?_) | refine go_void (hk := ?_)) | (show GK _ _ _ _ (blockK _ _ _); refine gk_past rfl ?_) | (show GC _ _ _ _ _ (.cond _ _ _) _; first | refine gc_yes (h1 := ?_) | refine gc_no (h1 := ?_))))
  refine gc_cond rfl (fun h2 => ?_) (fun h2 => ?_)
  · (repeat (first | refine gst (hk := ?_) | (show GO _ _ _ _ _ (⟨some _, none, _⟩ :: _) _; first | refine go_op (hk := ?_) | (refine go_nw (hk := ?_); intro u; try simp only [llc, lln, lna, lza]) | (refine go_np (hk := ?_); intro id)) | (show GO _ _ _ _ _ (⟨none, none, _⟩ :: _) _; refine go_st (hk := ?_)) | (show GO _ _ _ _ _ (⟨_, some _, _⟩ :: _) _; first | refine go_in (hk := ?_) | refine go_out (hk := ?_) | refine go_void (hk := ?_)) | (show GK _ _ _ _ (blockK _ _ _); refine gk_past rfl ?_) | (show GC _ _ _ _ _ (.cond _ _ _) _; first | refine gc_yes (h1 := ?_) | refine gc_no (h1 := ?_))))
    exact gk_ret rfl fun H' hH => ⟨by rw [no fun h => by have := h.2.2; omega]; rfl, hH.leE⟩
  (repeat (first | refine gst (hk := ?_) | (show GO _ _ _ _ _ (⟨some _, none, _⟩ :: _) _; first | refine go_op (hk := ?_) | (refine go_nw (hk := ?_); intro u; try simp only [llc, lln, lna, lza]) | (refine go_np (hk := ?_); intro id)) | (show GO _ _ _ _ _ (⟨none, none, _⟩ :: _) _; refine go_st (hk := ?_)) | (show GO _ _ _ _ _ (⟨_, some _, _⟩ :: _) _; first | refine go_in (hk := ?_) | refine go_out (hk := ?_) | refine go_void (hk := ?_)) | (show GK _ _ _ _ (blockK _ _ _); refine gk_past rfl ?_) | (show GC _ _ _ _ _ (.cond _ _ _) _; first | refine gc_yes (h1 := ?_) | refine gc_no (h1 := ?_))))
  refine gc_loop (γ := Nat) (fun i => [(13, a), (14, .int .i64 (xs.length : Int)), (15, .int .i64 (i : Int))]) (fun _ => [.roI a xs.length xs]) (fun i => i ≤ xs.length ∧ ∀ j, j < i → -30 ≤ nth xs j ∧ nth xs j ≤ 30) (fun i => xs.length - i) 0 ⟨Nat.zero_le _, fun k hk => by omega⟩ (hb := ?_)
  rintro i ⟨hi, hp⟩ I ν m hk
  (repeat (first | refine gst (hk := ?_) | (show GO _ _ _ _ _ (⟨some _, none, _⟩ :: _) _; first | refine go_op (hk := ?_) | (refine go_nw (hk := ?_); intro u; try simp only [llc, lln, lna, lza]) | (refine go_np (hk := ?_); intro id)) | (show GO _ _ _ _ _ (⟨none, none, _⟩ :: _) _; refine go_st (hk := ?_)) | (show GO _ _ _ _ _ (⟨_, some _, _⟩ :: _) _; first | refine go_in (hk := ?_) | refine go_out (hk := ?_) | refine go_void (hk := ?_)) | (show GK _ _ _ _ (blockK _ _ _); refine gk_past rfl ?_) | (show GC _ _ _ _ _ (.cond _ _ _) _; first | refine gc_yes (h1 := ?_) | refine gc_no (h1 := ?_))))
  refine gc_cond rfl (fun h => ?_) (fun h => ?_)
  · (repeat (first | refine gst (hk := ?_) | (show GO _ _ _ _ _ (⟨some _, none, _⟩ :: _) _; first | refine go_op (hk := ?_) | (refine go_nw (hk := ?_); intro u; try simp only [llc, lln, lna, lza]) | (refine go_np (hk := ?_); intro id)) | (show GO _ _ _ _ _ (⟨none, none, _⟩ :: _) _; refine go_st (hk := ?_)) | (show GO _ _ _ _ _ (⟨_, some _, _⟩ :: _) _; first | refine go_in (hk := ?_) | refine go_out (hk := ?_) | refine go_void (hk := ?_)) | (show GK _ _ _ _ (blockK _ _ _); refine gk_past rfl ?_) | (show GC _ _ _ _ _ (.cond _ _ _) _; first | refine gc_yes (h1 := ?_) | refine gc_no (h1 := ?_))))
    refine go_split 21 rfl (fun h3 => ?_) (fun h3 => ?_)
    · (repeat (first | refine gst (hk := ?_) | (show GO _ _ _ _ _ (⟨some _, none, _⟩ :: _) _; first | refine go_op (hk := ?_) | (refine go_nw (hk := ?_); intro u; try simp only [llc, lln, lna, lza]) | (refine go_np (hk := ?_); intro id)) | (show GO _ _ _ _ _ (⟨none, none, _⟩ :: _) _; refine go_st (hk := ?_)) | (show GO _ _ _ _ _ (⟨_, some _, _⟩ :: _) _; first | refine go_in (hk := ?_) | refine go_out (hk := ?_) | refine go_void (hk := ?_)) | (show GK _ _ _ _ (blockK _ _ _); refine gk_past rfl ?_) | (show GC _ _ _ _ _ (.cond _ _ _) _; first | refine gc_yes (h1 := ?_) | refine gc_no (h1 := ?_))))
      exact gk_ret rfl fun H' hH => ⟨by rw [no fun hL => by have := hL.x i; omega]; rfl, hH.leE⟩
    (repeat (first | refine gst (hk := ?_) | (show GO _ _ _ _ _ (⟨some _, none, _⟩ :: _) _; first | refine go_op (hk := ?_) | (refine go_nw (hk := ?_); intro u; try simp only [llc, lln, lna, lza]) | (refine go_np (hk := ?_); intro id)) | (show GO _ _ _ _ _ (⟨none, none, _⟩ :: _) _; refine go_st (hk := ?_)) | (show GO _ _ _ _ _ (⟨_, some _, _⟩ :: _) _; first | refine go_in (hk := ?_) | refine go_out (hk := ?_) | refine go_void (hk := ?_)) | (show GK _ _ _ _ (blockK _ _ _); refine gk_past rfl ?_) | (show GC _ _ _ _ _ (.cond _ _ _) _; first | refine gc_yes (h1 := ?_) | refine gc_no (h1 := ?_))))
    refine gc_cond rfl (fun h4 => ?_) (fun h4 => ?_)
    · (repeat (first | refine gst (hk := ?_) | (show GO _ _ _ _ _ (⟨some _, none, _⟩ :: _) _; first | refine go_op (hk := ?_) | (refine go_nw (hk := ?_); intro u; try simp only [llc, lln, lna, lza]) | (refine go_np (hk := ?_); intro id)) | (show GO _ _ _ _ _ (⟨none, none, _⟩ :: _) _; refine go_st (hk := ?_)) | (show GO _ _ _ _ _ (⟨_, some _, _⟩ :: _) _; first | refine go_in (hk := ?_) | refine go_out (hk := ?_) | refine go_void (hk := ?_)) | (show GK _ _ _ _ (blockK _ _ _); refine gk_past rfl ?_) | (show GC _ _ _ _ _ (.cond _ _ _) _; first | refine gc_yes (h1 := ?_) | refine gc_no (h1 := ?_))))
      exact gk_ret rfl fun H' hH => ⟨by rw [no fun hL => by have := hL.x i; omega]; rfl, hH.leE⟩
    · (repeat (first | refine gst (hk := ?_) | (show GO _ _ _ _ _ (⟨some _, none, _⟩ :: _) _; first | refine go_op (hk := ?_) | (refine go_nw (hk := ?_); intro u; try simp only [llc, lln, lna, lza]) | (refine go_np (hk := ?_); intro id)) | (show GO _ _ _ _ _ (⟨none, none, _⟩ :: _) _; refine go_st (hk := ?_)) | (show GO _ _ _ _ _ (⟨_, some _, _⟩ :: _) _; first | refine go_in (hk := ?_) | refine go_out (hk := ?_) | refine go_void (hk := ?_)) | (show GK _ _ _ _ (blockK _ _ _); refine gk_past rfl ?_) | (show GC _ _ _ _ _ (.cond _ _ _) _; first | refine gc_yes (h1 := ?_) | refine gc_no (h1 := ?_))))
      refine gk_next (hk (i + 1) ⟨by omega, fun j hj => ?_⟩ (by omega))
      rcases Nat.lt_or_ge j i with h5 | h5
      · exact hp j h5
      · rw [show j = i by omega]; omega
  · obtain rfl : i = xs.length := by omega
    have h6 : Bd 30 xs := fun x hx => by
      obtain ⟨m, hm, rfl⟩ := nth_ex hx
      exact hp m hm
    (repeat (first | refine gst (hk := ?_) | (show GO _ _ _ _ _ (⟨some _, none, _⟩ :: _) _; first | refine go_op (hk := ?_) | (refine go_nw (hk := ?_); intro u; try simp only [llc, lln, lna, lza]) | (refine go_np (hk := ?_); intro id)) | (show GO _ _ _ _ _ (⟨none, none, _⟩ :: _) _; refine go_st (hk := ?_)) | (show GO _ _ _ _ _ (⟨_, some _, _⟩ :: _) _; first | refine go_in (hk := ?_) | refine go_out (hk := ?_) | refine go_void (hk := ?_)) | (show GK _ _ _ _ (blockK _ _ _); refine gk_past rfl ?_) | (show GC _ _ _ _ _ (.cond _ _ _) _; first | refine gc_yes (h1 := ?_) | refine gc_no (h1 := ?_))))
    exact gk_ret rfl fun H' hH => ⟨by
      have : Steps xs := ⟨h6, by omega, by omega⟩
      simp [tupleOf, this], hH.leE⟩

def OneC (a : AV) : Prop := a.cells = [a] ∧ a.one = true

theorem one_slice {H : Heap} {v : AV} {es n : Nat} {cs : List AV} (h : Vals H v es n cs) : OneC v := by
  have hs := h.sl
  cases v <;> simp [AV.isSlice] at hs <;> exact ⟨rfl, rfl⟩

abbrev nthV (vs : List AV) (i : Nat) : AV := nthA .any vs i

theorem stp_ldV {A : Heap} {X : List Nat} {E : List (Nat × AV)} {S : Sig} {p : MX} {v : AV} {n i : Nat} {vs : List AV} (hp : evE E p = some (v.elem i)) (hh : Has S v 1 n vs) (hn : n = vs.length) (hi : i < vs.length) : Stp A X E S (.ld p 1 false) (Is (nthV vs i) S) :=
  stp_ldn (ds := [nthV vs i]) hp hh (by omega) (by
    rw [Nat.mul_one, show nthV vs i = vs[i] from nthA_of hi, List.drop_eq_getElem_cons hi]; rfl) rfl

structure BK where
  id : Nat
  k : Kd
  v : AV
  s : Nat
  e : Nat

def BKok (b : BK) : Prop := b.k = .rw ∨ (b.k = .ro ∧ ∃ id off, b.v = .slice id off (b.e - b.s) (some (b.e - b.s)) 2)

theorem BKok.kd {b : BK} (h : BKok b) : b.k = .rw ∨ b.k = .ro := h.imp (fun h => h) fun h => h.1

theorem tabS_snoc {α : Type} (n : Nat) (g : Nat → α) : tabS n g ++ [g n] = tabS (n + 1) g := by
  unfold tabS
  rw [List.range_succ, List.map_append]; rfl

structure Cst {α : Type} (op : α → α → α) (le : α → α → Prop) : Prop where
  assoc : ∀ a b c, op (op a b) c = op a (op b c)
  comm : ∀ a b, op a b = op b a
  mono : ∀ {a b} c, le a b → le (op a c) (op b c)
  refl : ∀ a, le a a
  trans : ∀ {a b c}, le a b → le b c → le a c
  anti : ∀ {a b}, le a b → le b a → a = b

inductive Cuts {α : Type} (op : α → α → α) (c : Nat → Nat → α) : Nat → Nat → Nat → α → Prop
  | one {i k : Nat} (h : i < k) : Cuts op c 1 i k (c i k)
  | snoc {p i m k : Nat} {v : α} (h : Cuts op c p i m v) (hk : m < k) : Cuts op c (p + 1) i k (op v (c m k))

theorem Cuts.lt {α : Type} {op : α → α → α} {c : Nat → Nat → α} {p i k : Nat} {v : α} (h : Cuts op c p i k v) : i < k ∧ 1 ≤ p ∧ i + p ≤ k := by
  induction h with
  | one h => omega
  | snoc h hk ih => omega

theorem Cuts.cons {α : Type} {op : α → α → α} {le : α → α → Prop} (hc : Cst op le) {c : Nat → Nat → α} {p i m k : Nat} {v : α} (hi : i < m) (h : Cuts op c p m k v) : Cuts op c (p + 1) i k (op (c i m) v) := by
  induction h with
  | one h => exact .snoc (.one hi) h
  | snoc h hk ih => rw [← hc.assoc]; exact .snoc (ih hi) hk

def LeastC {α : Type} (op : α → α → α) (le : α → α → Prop) (c : Nat → Nat → α) (P i k : Nat) (v : α) : Prop := (∃ q, q ≤ P ∧ Cuts op c q i k v) ∧ ∀ q w, q ≤ P → Cuts op c q i k w → le v w

theorem LeastC.pos {α : Type} {op : α → α → α} {le : α → α → Prop} {c : Nat → Nat → α} {P i k : Nat} {v : α} (h : LeastC op le c P i k v) : 1 ≤ P ∧ i < k := by
  obtain ⟨⟨q, h1, h2⟩, _⟩ := h
  have := h2.lt
  omega

theorem leastC_one {α : Type} {op : α → α → α} {le : α → α → Prop} (hc : Cst op le) {c : Nat → Nat → α} {i k : Nat} (h : i < k) : LeastC op le c 1 i k (c i k) := by
  refine ⟨⟨1, Nat.le_refl _, .one h⟩, fun q w hq hw => ?_⟩
  cases hw with
  | one h => exact hc.refl _
  | snoc h hk => have := h.lt; omega

/-- one piece more, at the end -/
theorem leastC_snoc {α : Type} {op : α → α → α} {le : α → α → Prop} (hc : Cst op le) {c : Nat → Nat → α} {P i k : Nat} {v v0 : α} {f : Nat → α} (h0 : LeastC op le c P i k v0) (hf : ∀ m, i < m → m < k → LeastC op le c P i m (f m)) (hv : v = v0 ∨ ∃ m, i < m ∧ m < k ∧ v = op (f m) (c m k)) (h1 : le v v0) (h2 : ∀ m, i < m → m < k → le v (op (f m) (c m k))) : LeastC op le c (P + 1) i k v := by
  refine ⟨?_, fun q w hq hw => ?_⟩
  · rcases hv with rfl | ⟨m, m1, m2, rfl⟩
    · obtain ⟨⟨q, g1, g2⟩, _⟩ := h0
      exact ⟨q, by omega, g2⟩
    · obtain ⟨⟨q, g1, g2⟩, _⟩ := hf m m1 m2
      exact ⟨q + 1, by omega, .snoc g2 m2⟩
  · cases hw with
    | one h => exact hc.trans h1 (h0.2 1 _ h0.pos.1 (.one h))
    | @snoc p _ m _ w' h hk =>
      have hl := h.lt
      exact hc.trans (h2 m hl.1 hk) (hc.mono _ ((hf m hl.1 hk).2 p w' (by omega) h))

theorem LeastC.congr {α : Type} {op : α → α → α} {le : α → α → Prop} {c d : Nat → Nat → α} {n P : Nat} (hd : ∀ i k, i < k → k ≤ n → d i k = c i k) {v : α} (h : LeastC op le d P 0 n v) : LeastC op le c P 0 n v := by
  have key : ∀ {c d : Nat → Nat → α}, (∀ i k, i < k → k ≤ n → d i k = c i k) → ∀ {p i k : Nat} {v : α}, Cuts op d p i k v → k ≤ n → Cuts op c p i k v := by
    intro c d hd p i k v h
    induction h with
    | one h => intro hk; rw [hd _ _ h hk]; exact .one h
    | snoc h hmk ih => intro hk; rw [hd _ _ hmk hk]; exact .snoc (ih (by omega)) hmk
  obtain ⟨⟨q, h1, h2⟩, h3⟩ := h
  exact ⟨⟨q, h1, key hd h2 (Nat.le_refl _)⟩, fun q w hq hw => h3 q w hq (key (fun i k h1 h2 => (hd i k h1 h2).symm) hw (Nat.le_refl _))⟩

theorem cstR : Cst (α := Rat) (· + ·) (· ≤ ·) where
  assoc a b c := Rat.add_assoc a b c
  comm a b := Rat.add_comm a b
  mono c h := by
    grind
  refl a := Rat.le_refl
  trans h1 h2 := Rat.le_trans h1 h2
  anti h1 h2 := Rat.le_antisymm h1 h2

def wsS (xs : List Int) (i d : Nat) : Int := sumY (fun j => nth xs (i + j)) d

def wsQ (xs : List Int) (i d : Nat) : Int := sumY (fun j => nth xs (i + j) * nth xs (i + j)) d

def pieR (xs : List Int) (i k : Nat) : Rat := ((((k - i : Nat) : Int) * wsQ xs i (k - i) - wsS xs i (k - i) * wsS xs i (k - i) : Int) : Rat) / (((k - i : Nat) : Int) : Rat)

theorem ws_bd {xs : List Int} (hb : ∀ j, -30 ≤ nth xs j ∧ nth xs j ≤ 30) (i : Nat) : ∀ d : Nat, (-(30 * (d : Int)) ≤ wsS xs i d ∧ wsS xs i d ≤ 30 * (d : Int)) ∧ 0 ≤ wsQ xs i d ∧ wsQ xs i d ≤ 900 * (d : Int)
  | 0 => by simp [wsS, wsQ, sumY]
  | d + 1 => by
    obtain ⟨⟨a1, a2⟩, a3, a4⟩ := ws_bd hb i d
    have hx := hb (i + d)
    rw [show wsS xs i (d + 1) = wsS xs i d + nth xs (i + d) from rfl, show wsQ xs i (d + 1) = wsQ xs i d + nth xs (i + d) * nth xs (i + d) from rfl]
    generalize nth xs (i + d) = x at *
    have m1 := absmul (k := x) (l := x) (A := 30) (B := 30) (by omega) (by omega) (by omega) (by omega)
    have m0 : 0 ≤ x * x := by
      rcases Int.le_total 0 x with g | g
      · exact Int.mul_nonneg g g
      · have := Int.mul_nonneg (show 0 ≤ -x by omega) (show 0 ≤ -x by omega)
        rwa [Int.neg_mul_neg] at this
    omega

theorem pie_fd {xs : List Int} (hb : ∀ j, -30 ≤ nth xs j ∧ nth xs j ≤ 30) {i k : Nat} (h : i < k) (hk : k ≤ i + 8) : FD (pieR xs i k) (((k - i : Nat) : Int)) 115200 := by
  obtain ⟨a1, a3, a4⟩ := ws_bd hb i (k - i)
  refine FD.div (by omega) ?_
  generalize hn : k - i = n at *
  have m1 := absmul (k := wsS xs i n) (l := wsS xs i n) (A := 240) (B := 240) (by omega) (by omega) (by omega) (by omega)
  have m2 : (n : Int) * wsQ xs i n ≤ 8 * 7200 := Int.mul_le_mul (by omega) (by omega) (by omega) (by omega)
  have m3 : 0 ≤ (n : Int) * wsQ xs i n := Int.mul_nonneg (by omega) (by omega)
  generalize wsS xs i n * wsS xs i n = p at *
  generalize (n : Int) * wsQ xs i n = q at *
  omega

theorem pie_fd2 {xs : List Int} (hb : ∀ j, -30 ≤ nth xs j ∧ nth xs j ≤ 30) {i k : Nat} (h : i < k) (hk : k ≤ i + 8) : FD (pieR xs i k) 840 96768000 := by
  have f := pie_fd hb h hk
  have key : ∃ m : Int, 0 < m ∧ ((k - i : Nat) : Int) * m = 840 ∧ m ≤ 840 := by
    have h1 : k - i = 1 ∨ k - i = 2 ∨ k - i = 3 ∨ k - i = 4 ∨ k - i = 5 ∨ k - i = 6 ∨ k - i = 7 ∨ k - i = 8 := by omega
    rcases h1 with h1 | h1 | h1 | h1 | h1 | h1 | h1 | h1 <;> rw [h1]
    · exact ⟨840, by omega⟩
    · exact ⟨420, by omega⟩
    · exact ⟨280, by omega⟩
    · exact ⟨210, by omega⟩
    · exact ⟨168, by omega⟩
    · exact ⟨140, by omega⟩
    · exact ⟨120, by omega⟩
    · exact ⟨105, by omega⟩
  obtain ⟨m, m1, m2, m3⟩ := key
  exact ((f.lift m1).to m2).mono (by omega)

theorem cuts_fd {xs : List Int} (hb : ∀ j, -30 ≤ nth xs j ∧ nth xs j ≤ 30) {p i k : Nat} {v : Rat} (h : Cuts (· + ·) (pieR xs) p i k v) : k ≤ 8 → FD v 840 (96768000 * (p : Int)) := by
  induction h with
  | @one i k h => intro hk; exact (pie_fd2 hb h (by omega)).mono (by omega)
  | @snoc p i m k v h hmk ih =>
    intro hk
    exact ((ih (by omega)).add (pie_fd2 hb hmk (by omega))).mono (by omega)

def winL (xs : List Int) (i k : Nat) : List Int := (xs.drop i).take (k - i)

theorem win_nth {xs : List Int} {i k j : Nat} (hk : k ≤ xs.length) (hj : j < k - i) : nth (winL xs i k) j = nth xs (i + j) := by
  unfold winL
  have h1 : j < ((xs.drop i).take (k - i)).length := by rw [List.length_take, List.length_drop]; omega
  rw [nth_of h1, nth_of (by omega), List.getElem_take, List.getElem_drop]

structure SelOk {α : Type} (le : α → α → Prop) (sel : α → α → α) : Prop where
  or : ∀ a b, sel a b = a ∨ sel a b = b
  l : ∀ a b, le (sel a b) a
  r : ∀ a b, le (sel a b) b

def selR (a b : Rat) : Rat := if b < a then b else a

theorem selR_ok : SelOk (α := Rat) (· ≤ ·) selR where
  or a b := by unfold selR; split <;> simp
  l a b := by
    unfold selR; split
    · rename_i h; exact Rat.le_of_lt h
    · exact Rat.le_refl
  r a b := by
    unfold selR; split
    · exact Rat.le_refl
    · rename_i h; exact Rat.not_lt.1 h

def seqm {α : Type} (sel : α → α → α) (v0 : α) (g : Nat → α) : Nat → α
  | 0 => v0
  | m + 1 => sel (seqm sel v0 g m) (g (m + 1))

theorem seqm_is {α : Type} {op : α → α → α} {le : α → α → Prop} (hc : Cst op le) {sel : α → α → α} (hs : SelOk le sel) (v0 : α) (g : Nat → α) : ∀ m, (seqm sel v0 g m = v0 ∨ ∃ j, 1 ≤ j ∧ j ≤ m ∧ seqm sel v0 g m = g j) ∧ le (seqm sel v0 g m) v0 ∧ ∀ j, 1 ≤ j → j ≤ m → le (seqm sel v0 g m) (g j)
  | 0 => ⟨.inl rfl, hc.refl _, fun j h1 h2 => by omega⟩
  | m + 1 => by
    obtain ⟨h1, h2, h3⟩ := seqm_is hc hs v0 g m
    rw [seqm]
    refine ⟨?_, hc.trans (hs.l _ _) h2, fun j j1 j2 => ?_⟩
    · rcases hs.or (seqm sel v0 g m) (g (m + 1)) with e | e
      · rw [e]
        rcases h1 with h1 | ⟨j, j1, j2, j3⟩
        · exact .inl h1
        · exact .inr ⟨j, j1, by omega, j3⟩
      · exact .inr ⟨m + 1, by omega, Nat.le_refl _, e⟩
    · rcases Nat.lt_or_ge m j with g1 | g1
      · obtain rfl : j = m + 1 := by omega
        exact hs.r _ _
      · exact hc.trans (hs.l _ _) (h3 j j1 g1)

/-- by steps: p + 1 pieces of the first k numbers -/
def dpF {α : Type} (op : α → α → α) (sel : α → α → α) (c : Nat → Nat → α) : Nat → Nat → α
  | 0, k => c 0 k
  | p + 1, k => seqm sel (dpF op sel c p k) (fun i => op (dpF op sel c p i) (c i k)) (k - 1)

theorem dp_least {α : Type} {op : α → α → α} {le : α → α → Prop} (hc : Cst op le) {sel : α → α → α} (hs : SelOk le sel) (c : Nat → Nat → α) : ∀ p k, 1 ≤ k → LeastC op le c (p + 1) 0 k (dpF op sel c p k)
  | 0, k, hk => leastC_one hc hk
  | p + 1, k, hk => by
    obtain ⟨h1, h2, h3⟩ := seqm_is hc hs (dpF op sel c p k) (fun i => op (dpF op sel c p i) (c i k)) (k - 1)
    refine leastC_snoc hc (f := dpF op sel c p) (dp_least hc hs c p k hk) (fun m m1 m2 => dp_least hc hs c p m m1) ?_ h2 fun m m1 m2 => h3 m m1 (by omega)
    rcases h1 with h1 | ⟨j, j1, j2, j3⟩
    · exact .inl h1
    · exact .inr ⟨j, j1, by omega, j3⟩

theorem Steps.neg {xs : List Int} (h : Steps xs) : Steps (negL xs) := ⟨fun x hx => by
  unfold negL at hx
  obtain ⟨y, hy, rfl⟩ := List.mem_map.1 hx
  have := h.1 y hy
  omega, by rw [negL_length]; exact h.2.1, by rw [negL_length]; exact h.2.2⟩

def PpOk (xs : List Int) (c : Int) : Prop := Steps xs ∧ (0 ≤ c ∧ c ≤ 500)

noncomputable instance (xs : List Int) (c : Int) : Decidable (PpOk xs c) := Classical.propDecidable _

def psR (xs : List Int) (p : Nat) : Rat := dpF (· + ·) selR (pieR xs) (p - 1) xs.length

theorem ps_least {xs : List Int} (h : Steps xs) {p : Nat} (hp : 1 ≤ p) : LeastC (· + ·) (· ≤ ·) (pieR xs) p 0 xs.length (psR xs p) := by
  have := dp_least cstR selR_ok (pieR xs) (p - 1) xs.length h.2.1
  rwa [show p - 1 + 1 = p by omega] at this

theorem ps_fd {xs : List Int} (h : Steps xs) {p : Nat} (hp : 1 ≤ p) : FD (psR xs p) 840 774144000 := by
  obtain ⟨⟨q, h1, h2⟩, _⟩ := ps_least h hp
  have hn := h.2.2
  have := h2.lt
  exact (cuts_fd h.x h2 hn).mono (by omega)

def ppF (xs : List Int) (c : Int) (p : Nat) : Rat := psR xs p + ((c * (p : Int) : Int) : Rat)

def ppN (xs : List Int) (c : Int) : Nat → Nat
  | 0 => 1
  | m + 1 => if ppF xs c (m + 2) < ppF xs c (ppN xs c m) then m + 2 else ppN xs c m

theorem ppN_is (xs : List Int) (c : Int) : ∀ m, (1 ≤ ppN xs c m ∧ ppN xs c m ≤ m + 1) ∧ (∀ p, 1 ≤ p → p ≤ m + 1 → ppF xs c (ppN xs c m) ≤ ppF xs c p) ∧ ∀ p, 1 ≤ p → p < ppN xs c m → ppF xs c p ≠ ppF xs c (ppN xs c m)
  | 0 => ⟨⟨Nat.le_refl _, Nat.le_refl _⟩, fun p h1 h2 => by
      obtain rfl : p = 1 := by omega
      exact Rat.le_refl, fun p h1 h2 => by
      have : ppN xs c 0 = 1 := rfl
      omega⟩
  | m + 1 => by
    obtain ⟨⟨a1, a2⟩, a3, a4⟩ := ppN_is xs c m
    rw [ppN]
    by_cases hc : ppF xs c (m + 2) < ppF xs c (ppN xs c m)
    · rw [if_pos hc]
      refine ⟨⟨by omega, Nat.le_refl _⟩, fun p h1 h2 => ?_, fun p h1 h2 h3 => ?_⟩
      · rcases Nat.lt_or_ge (m + 1) p with g | g
        · obtain rfl : p = m + 2 := by omega
          exact Rat.le_refl
        · exact Rat.le_trans (Rat.le_of_lt hc) (a3 p h1 g)
      · have := a3 p h1 (by omega)
        rw [h3] at this
        exact absurd hc (Rat.not_lt.2 this)
    · rw [if_neg hc]
      refine ⟨⟨a1, by omega⟩, fun p h1 h2 => ?_, a4⟩
      rcases Nat.lt_or_ge (m + 1) p with g | g
      · obtain rfl : p = m + 2 := by omega
        exact Rat.not_lt.1 hc
      · exact a3 p h1 g
/- middles -/

theorem specValidSteps_ok {H : Heap} {a : AV} {xs : List Int} (ha : Ints H a xs) (hl : xs.length ≤ 1000000000) :
    ACalls Try.prog fn_spec_validSteps [a] H fun r H' => r = .bool (decide (Steps xs)) ∧ H' = H := by
  refine ACalls.val ?_ rfl
  refine code_spec_validSteps.go [.roI a xs.length xs] ⟨⟨rfl, ha⟩, trivial⟩ (by simp) ?_
  unfold mc_spec_validSteps
  have no : (Steps xs → False) → decide (Steps xs) = false := fun h => decide_eq_false h
  (repeat (first | refine gst (hk := ?_) | (show GO _ _ _ _ _ (⟨some _, none, .call _ _⟩ :: _) _; first | (show GO _ _ _ _ _ (⟨some _, none, .call fn_spec_inRange _⟩ :: _) _; refine go_inRange (hk := ?_); try intro u)) | (show GO _ _ _ _ _ (⟨some _, none, _⟩ :: _) _; first | refine go_op (hk := ?_) | (refine go_nw (hk := ?_); intro u; try simp only [llc, lln, lna, lza]) | (refine go_np (hk := ?_); intro id)) | (show GO _ _ _ _ _ (⟨none, none, _⟩ :: _) _; refine go_st (hk := ?_)) | (show GO _ _ _ _ _ (⟨_, some _, _⟩ :: _) _; first | refine go_in (hk := ?_) | refine go_out (hk := ?_) | refine go_void (hk := ?_)) | (show GK _ _ _ _ (blockK _ _ _); refine gk_past rfl ?_) | (show GC _ _ _ _ _ (.cond _ _ _) _; first | refine gc_yes (h1 := ?_) | refine gc_no (h1 := ?_))))
  refine gc_loop (γ := Nat) (fun i => [(0, a), (3, .int .i64 (i : Int))]) (fun _ => [.roI a xs.length xs]) (fun i => i ≤ xs.length ∧ ∀ j, j < i → -30 ≤ nth xs j ∧ nth xs j ≤ 30) (fun i => xs.length - i) 0 ⟨Nat.zero_le _, fun k hk => by omega⟩ (hb := ?_)
  rintro i ⟨hi, hp⟩ I ν m hk
  (repeat (first | refine gst (hk := ?_) | (show GO _ _ _ _ _ (⟨some _, none, .call _ _⟩ :: _) _; first | (show GO _ _ _ _ _ (⟨some _, none, .call fn_spec_inRange _⟩ :: _) _; refine go_inRange (hk := ?_); try intro u)) | (show GO _ _ _ _ _ (⟨some _, none, _⟩ :: _) _; first | refine go_op (hk := ?_) | (refine go_nw (hk := ?_); intro u; try simp only [llc, lln, lna, lza]) | (refine go_np (hk := ?_); intro id)) | (show GO _ _ _ _ _ (⟨none, none, _⟩ :: _) _; refine go_st (hk := ?_)) | (show GO _ _ _ _ _ (⟨_, some _, _⟩ :: _) _; first | refine go_in (hk := ?_) | refine go_out (hk := ?_) | refine go_void (hk := ?_)) | (show GK _ _ _ _ (blockK _ _ _); refine gk_past rfl ?_) | (show GC _ _ _ _ _ (.cond _ _ _) _; first | refine gc_yes (h1 := ?_) | refine gc_no (h1 := ?_))))
  refine gc_cond rfl (fun h => ?_) (fun h => ?_)
  · (repeat (first | refine gst (hk := ?_) | (show GO _ _ _ _ _ (⟨some _, none, .call _ _⟩ :: _) _; first | (show GO _ _ _ _ _ (⟨some _, none, .call fn_spec_inRange _⟩ :: _) _; refine go_inRange (hk := ?_); try intro u)) | (show GO _ _ _ _ _ (⟨some _, none, _⟩ :: _) _; first | refine go_op (hk := ?_) | (refine go_nw (hk := ?_); intro u; try simp only [llc, lln, lna, lza]) | (refine go_np (hk := ?_); intro id)) | (show GO _ _ _ _ _ (⟨none, none, _⟩ :: _) _; refine go_st (hk := ?_)) | (show GO _ _ _ _ _ (⟨_, some _, _⟩ :: _) _; first | refine go_in (hk := ?_) | refine go_out (hk := ?_) | refine go_void (hk := ?_)) | (show GK _ _ _ _ (blockK _ _ _); refine gk_past rfl ?_) | (show GC _ _ _ _ _ (.cond _ _ _) _; first | refine gc_yes (h1 := ?_) | refine gc_no (h1 := ?_))))
    refine gc_cond rfl (fun h2 => ?_) (fun h2 => ?_)
    · (repeat (first | refine gst (hk := ?_) | (show GO _ _ _ _ _ (⟨some _, none, .call _ _⟩ :: _) _; first | (show GO _ _ _ _ _ (⟨some _, none, .call fn_spec_inRange _⟩ :: _) _; refine go_inRange (hk := ?_); try intro u)) | (show GO _ _ _ _ _ (⟨some _, none, _⟩ :: _) _; first | refine go_op (hk := ?_) | (refine go_nw (hk := ?_); intro u; try simp only [llc, lln, lna, lza]) | (refine go_np (hk := ?_); intro id)) | (show GO _ _ _ _ _ (⟨none, none, _⟩ :: _) _; refine go_st (hk := ?_)) | (show GO _ _ _ _ _ (⟨_, some _, _⟩ :: _) _; first | refine go_in (hk := ?_) | refine go_out (hk := ?_) | refine go_void (hk := ?_)) | (show GK _ _ _ _ (blockK _ _ _); refine gk_past rfl ?_) | (show GC _ _ _ _ _ (.cond _ _ _) _; first | refine gc_yes (h1 := ?_) | refine gc_no (h1 := ?_))))
      exact gk_ret rfl fun H' hH => ⟨by rw [no fun hL => h2 (hL.x i)]; rfl, hH.leE⟩
    · (repeat (first | refine gst (hk := ?_) | (show GO _ _ _ _ _ (⟨some _, none, .call _ _⟩ :: _) _; first | (show GO _ _ _ _ _ (⟨some _, none, .call fn_spec_inRange _⟩ :: _) _; refine go_inRange (hk := ?_); try intro u)) | (show GO _ _ _ _ _ (⟨some _, none, _⟩ :: _) _; first | refine go_op (hk := ?_) | (refine go_nw (hk := ?_); intro u; try simp only [llc, lln, lna, lza]) | (refine go_np (hk := ?_); intro id)) | (show GO _ _ _ _ _ (⟨none, none, _⟩ :: _) _; refine go_st (hk := ?_)) | (show GO _ _ _ _ _ (⟨_, some _, _⟩ :: _) _; first | refine go_in (hk := ?_) | refine go_out (hk := ?_) | refine go_void (hk := ?_)) | (show GK _ _ _ _ (blockK _ _ _); refine gk_past rfl ?_) | (show GC _ _ _ _ _ (.cond _ _ _) _; first | refine gc_yes (h1 := ?_) | refine gc_no (h1 := ?_))))
      refine gk_next (hk (i + 1) ⟨by omega, fun j hj => ?_⟩ (by omega))
      rcases Nat.lt_or_ge j i with h4 | h4
      · exact hp j h4
      · rw [show j = i by omega]; exact Decidable.not_not.1 h2
  · obtain rfl : i = xs.length := by omega
    have h6 : Bd 30 xs := fun x hx => by
      obtain ⟨m, hm, rfl⟩ := nth_ex hx
      exact hp m hm
    (repeat (first | refine gst (hk := ?_) | (show GO _ _ _ _ _ (⟨some _, none, .call _ _⟩ :: _) _; first | (show GO _ _ _ _ _ (⟨some _, none, .call fn_spec_inRange _⟩ :: _) _; refine go_inRange (hk := ?_); try intro u)) | (show GO _ _ _ _ _ (⟨some _, none, _⟩ :: _) _; first | refine go_op (hk := ?_) | (refine go_nw (hk := ?_); intro u; try simp only [llc, lln, lna, lza]) | (refine go_np (hk := ?_); intro id)) | (show GO _ _ _ _ _ (⟨none, none, _⟩ :: _) _; refine go_st (hk := ?_)) | (show GO _ _ _ _ _ (⟨_, some _, _⟩ :: _) _; first | refine go_in (hk := ?_) | refine go_out (hk := ?_) | refine go_void (hk := ?_)) | (show GK _ _ _ _ (blockK _ _ _); refine gk_past rfl ?_) | (show GC _ _ _ _ _ (.cond _ _ _) _; first | refine gc_yes (h1 := ?_) | refine gc_no (h1 := ?_))))
    exact gk_ret rfl fun H' hH => ⟨by
      simp only [tupleOf]; congr 1
      exact decide_eq_decide.2 ⟨fun h7 => ⟨h6, by omega, by omega⟩, fun h7 => ⟨by have := h7.2.1; omega, by have := h7.2.2; omega⟩⟩, hH.leE⟩

end Go.Rx.Try
