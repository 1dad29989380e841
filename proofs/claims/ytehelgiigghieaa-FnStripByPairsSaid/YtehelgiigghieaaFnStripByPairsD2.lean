import Derived.Test.YtehelgiigghieaaFnStripByPairsD1
namespace Go.Rx.Try
open Go.Proofs
set_option maxRecDepth 100000
set_option maxHeartbeats 8000000
set_option linter.unusedSimpArgs false
set_option linter.unusedVariables false

theorem frac_ok {H : Heap} {a b : Int} (ha : -4611686018427387904 ≤ a ∧ a ≤ 4611686018427387904) (hb : -4611686018427387904 ≤ b ∧ b ≤ 4611686018427387904) (h0 : b ≠ 0) :
    ACalls Try.prog fn_spec_frac [.int .i64 a, .int .i64 b] H fun r H' => r = frV ((a : Rat) / (b : Rat)) ∧ H' = H := by
  refine ACalls.val ?_ rfl
  have hg : (0 : Int) < (Int.gcd a b : Nat) := by
    have := Int.gcd_pos_of_ne_zero_right a h0
    omega
  obtain ⟨e1, e2⟩ := div_num (a := a) h0
  refine code_spec_frac.go [] trivial (by simp) ?_
  unfold mc_spec_frac
  (repeat (first | refine gst (hk := ?_) | (with_reducible first | (refine gc_drw (h := ?_); intro _) | (refine gc_drw2 (h := ?_); intro _)) | (show GO _ _ _ _ _ (⟨some _, none, _⟩ :: _) _; first | refine go_op (hk := ?_) | (refine go_nw (hk := ?_); intro u; try simp only [llc, lln, lna, lza]) | (refine go_np (hk := ?_); intro id)) | (show GD _ _ _ _ _ _ _ (⟨some _, none, _⟩ :: _) _; first | refine gd_op (hk := ?_) | (refine gd_nw (hk := ?_); intro u; try simp only [llc, lln, lna, lza])) | (show GD2 _ _ _ _ _ _ _ _ _ _ _ _ _ _; first | refine gd2_nil rfl ?_ | refine gd2_op (hk := ?_) | (refine gd2_nw (hk := ?_); intro u; try simp only [llc, lln, lna, lza]) | refine gd2_l (hk := ?_) | refine gd2_lp (hk := ?_) | (refine gd2_newp (hk := ?_); intro id) | refine gd2_st (hk := ?_) | (refine gd2_bsl rfl rfl ?_; intro u; try simp only [llc, lln, lna, lza]) | (refine gd2_a (hk := ?_); intro u; try simp only [llc, lln, lna, lza])) | (show GO _ _ _ _ _ (⟨none, none, _⟩ :: _) _; refine go_st (hk := ?_)) | (show GD _ _ _ _ _ _ _ (⟨none, none, _⟩ :: _) _; refine gd_st (hk := ?_)) | (show GO _ _ _ _ _ (⟨_, some _, _⟩ :: _) _; first | refine go_in (hk := ?_) | refine go_out (hk := ?_) | refine go_void (hk := ?_)) | (show GK _ _ _ _ (blockK _ _ _); refine gk_past rfl ?_) | (show GC _ _ _ _ _ (.cond _ _ _) _; first | refine gc_yes (h1 := ?_) | refine gc_no (h1 := ?_))))
  refine gc_cond rfl (fun h => ?_) (fun h => ?_)
  · have eg : Int.gcd (-a) (-b) = Int.gcd a b := by rw [Int.gcd_neg, Int.neg_gcd]
    have d1 := tdiv_in (a := -a) (g := (Int.gcd a b : Nat)) (B := 4611686018427387904) (by omega)
    have d2 := tdiv_in (a := -b) (g := (Int.gcd a b : Nat)) (B := 4611686018427387904) (by omega)
    rw [show b.sign = -1 from Int.sign_eq_neg_one_of_neg h] at e1
    rw [show max b (-b) = -b by omega] at e2
    rw [show (-1 : Int) * a = -a by omega] at e1
    (repeat (first | refine gst (hk := ?_) | (with_reducible first | (refine gc_drw (h := ?_); intro _) | (refine gc_drw2 (h := ?_); intro _)) | (show GO _ _ _ _ _ (⟨some _, none, _⟩ :: _) _; first | refine go_op (hk := ?_) | (refine go_nw (hk := ?_); intro u; try simp only [llc, lln, lna, lza]) | (refine go_np (hk := ?_); intro id)) | (show GD _ _ _ _ _ _ _ (⟨some _, none, _⟩ :: _) _; first | refine gd_op (hk := ?_) | (refine gd_nw (hk := ?_); intro u; try simp only [llc, lln, lna, lza])) | (show GD2 _ _ _ _ _ _ _ _ _ _ _ _ _ _; first | refine gd2_nil rfl ?_ | refine gd2_op (hk := ?_) | (refine gd2_nw (hk := ?_); intro u; try simp only [llc, lln, lna, lza]) | refine gd2_l (hk := ?_) | refine gd2_lp (hk := ?_) | (refine gd2_newp (hk := ?_); intro id) | refine gd2_st (hk := ?_) | (refine gd2_bsl rfl rfl ?_; intro u; try simp only [llc, lln, lna, lza]) | (refine gd2_a (hk := ?_); intro u; try simp only [llc, lln, lna, lza])) | (show GO _ _ _ _ _ (⟨none, none, _⟩ :: _) _; refine go_st (hk := ?_)) | (show GD _ _ _ _ _ _ _ (⟨none, none, _⟩ :: _) _; refine gd_st (hk := ?_)) | (show GO _ _ _ _ _ (⟨_, some _, _⟩ :: _) _; first | refine go_in (hk := ?_) | refine go_out (hk := ?_) | refine go_void (hk := ?_)) | (show GK _ _ _ _ (blockK _ _ _); refine gk_past rfl ?_) | (show GC _ _ _ _ _ (.cond _ _ _) _; first | refine gc_yes (h1 := ?_) | refine gc_no (h1 := ?_))))
    refine go_callp rfl code_spec_gcd.callable (fun H hH => gcd_ok (by omega) (by omega)) ?_
    rw [eg]
    (repeat (first | refine gst (hk := ?_) | (with_reducible first | (refine gc_drw (h := ?_); intro _) | (refine gc_drw2 (h := ?_); intro _)) | (show GO _ _ _ _ _ (⟨some _, none, _⟩ :: _) _; first | refine go_op (hk := ?_) | (refine go_nw (hk := ?_); intro u; try simp only [llc, lln, lna, lza]) | (refine go_np (hk := ?_); intro id)) | (show GD _ _ _ _ _ _ _ (⟨some _, none, _⟩ :: _) _; first | refine gd_op (hk := ?_) | (refine gd_nw (hk := ?_); intro u; try simp only [llc, lln, lna, lza])) | (show GD2 _ _ _ _ _ _ _ _ _ _ _ _ _ _; first | refine gd2_nil rfl ?_ | refine gd2_op (hk := ?_) | (refine gd2_nw (hk := ?_); intro u; try simp only [llc, lln, lna, lza]) | refine gd2_l (hk := ?_) | refine gd2_lp (hk := ?_) | (refine gd2_newp (hk := ?_); intro id) | refine gd2_st (hk := ?_) | (refine gd2_bsl rfl rfl ?_; intro u; try simp only [llc, lln, lna, lza]) | (refine gd2_a (hk := ?_); intro u; try simp only [llc, lln, lna, lza])) | (show GO _ _ _ _ _ (⟨none, none, _⟩ :: _) _; refine go_st (hk := ?_)) | (show GD _ _ _ _ _ _ _ (⟨none, none, _⟩ :: _) _; refine gd_st (hk := ?_)) | (show GO _ _ _ _ _ (⟨_, some _, _⟩ :: _) _; first | refine go_in (hk := ?_) | refine go_out (hk := ?_) | refine go_void (hk := ?_)) | (show GK _ _ _ _ (blockK _ _ _); refine gk_past rfl ?_) | (show GC _ _ _ _ _ (.cond _ _ _) _; first | refine gc_yes (h1 := ?_) | refine gc_no (h1 := ?_))))
    refine gd_is rfl (stp_quo (a := -a) (b := ((Int.gcd a b : Nat) : Int)) (by exact rfl) (by exact rfl) (by omega) (by omega)) ?_
    (repeat (first | refine gst (hk := ?_) | (with_reducible first | (refine gc_drw (h := ?_); intro _) | (refine gc_drw2 (h := ?_); intro _)) | (show GO _ _ _ _ _ (⟨some _, none, _⟩ :: _) _; first | refine go_op (hk := ?_) | (refine go_nw (hk := ?_); intro u; try simp only [llc, lln, lna, lza]) | (refine go_np (hk := ?_); intro id)) | (show GD _ _ _ _ _ _ _ (⟨some _, none, _⟩ :: _) _; first | refine gd_op (hk := ?_) | (refine gd_nw (hk := ?_); intro u; try simp only [llc, lln, lna, lza])) | (show GD2 _ _ _ _ _ _ _ _ _ _ _ _ _ _; first | refine gd2_nil rfl ?_ | refine gd2_op (hk := ?_) | (refine gd2_nw (hk := ?_); intro u; try simp only [llc, lln, lna, lza]) | refine gd2_l (hk := ?_) | refine gd2_lp (hk := ?_) | (refine gd2_newp (hk := ?_); intro id) | refine gd2_st (hk := ?_) | (refine gd2_bsl rfl rfl ?_; intro u; try simp only [llc, lln, lna, lza]) | (refine gd2_a (hk := ?_); intro u; try simp only [llc, lln, lna, lza])) | (show GO _ _ _ _ _ (⟨none, none, _⟩ :: _) _; refine go_st (hk := ?_)) | (show GD _ _ _ _ _ _ _ (⟨none, none, _⟩ :: _) _; refine gd_st (hk := ?_)) | (show GO _ _ _ _ _ (⟨_, some _, _⟩ :: _) _; first | refine go_in (hk := ?_) | refine go_out (hk := ?_) | refine go_void (hk := ?_)) | (show GK _ _ _ _ (blockK _ _ _); refine gk_past rfl ?_) | (show GC _ _ _ _ _ (.cond _ _ _) _; first | refine gc_yes (h1 := ?_) | refine gc_no (h1 := ?_))))
    exact gk_retc rfl (by exact Sel.auto) rfl rfl fun H' hH => ⟨by rw [frV, e1, e2]; rfl, hH.leE⟩
  · have d1 := tdiv_in (a := a) (g := (Int.gcd a b : Nat)) (B := 4611686018427387904) (by omega)
    have d2 := tdiv_in (a := b) (g := (Int.gcd a b : Nat)) (B := 4611686018427387904) (by omega)
    rw [show b.sign = 1 from Int.sign_eq_one_of_pos (by omega)] at e1
    rw [show max b (-b) = b by omega] at e2
    rw [show (1 : Int) * a = a by omega] at e1
    (repeat (first | refine gst (hk := ?_) | (with_reducible first | (refine gc_drw (h := ?_); intro _) | (refine gc_drw2 (h := ?_); intro _)) | (show GO _ _ _ _ _ (⟨some _, none, _⟩ :: _) _; first | refine go_op (hk := ?_) | (refine go_nw (hk := ?_); intro u; try simp only [llc, lln, lna, lza]) | (refine go_np (hk := ?_); intro id)) | (show GD _ _ _ _ _ _ _ (⟨some _, none, _⟩ :: _) _; first | refine gd_op (hk := ?_) | (refine gd_nw (hk := ?_); intro u; try simp only [llc, lln, lna, lza])) | (show GD2 _ _ _ _ _ _ _ _ _ _ _ _ _ _; first | refine gd2_nil rfl ?_ | refine gd2_op (hk := ?_) | (refine gd2_nw (hk := ?_); intro u; try simp only [llc, lln, lna, lza]) | refine gd2_l (hk := ?_) | refine gd2_lp (hk := ?_) | (refine gd2_newp (hk := ?_); intro id) | refine gd2_st (hk := ?_) | (refine gd2_bsl rfl rfl ?_; intro u; try simp only [llc, lln, lna, lza]) | (refine gd2_a (hk := ?_); intro u; try simp only [llc, lln, lna, lza])) | (show GO _ _ _ _ _ (⟨none, none, _⟩ :: _) _; refine go_st (hk := ?_)) | (show GD _ _ _ _ _ _ _ (⟨none, none, _⟩ :: _) _; refine gd_st (hk := ?_)) | (show GO _ _ _ _ _ (⟨_, some _, _⟩ :: _) _; first | refine go_in (hk := ?_) | refine go_out (hk := ?_) | refine go_void (hk := ?_)) | (show GK _ _ _ _ (blockK _ _ _); refine gk_past rfl ?_) | (show GC _ _ _ _ _ (.cond _ _ _) _; first | refine gc_yes (h1 := ?_) | refine gc_no (h1 := ?_))))
    refine go_callp rfl code_spec_gcd.callable (fun H hH => gcd_ok (by omega) (by omega)) ?_
    (repeat (first | refine gst (hk := ?_) | (with_reducible first | (refine gc_drw (h := ?_); intro _) | (refine gc_drw2 (h := ?_); intro _)) | (show GO _ _ _ _ _ (⟨some _, none, _⟩ :: _) _; first | refine go_op (hk := ?_) | (refine go_nw (hk := ?_); intro u; try simp only [llc, lln, lna, lza]) | (refine go_np (hk := ?_); intro id)) | (show GD _ _ _ _ _ _ _ (⟨some _, none, _⟩ :: _) _; first | refine gd_op (hk := ?_) | (refine gd_nw (hk := ?_); intro u; try simp only [llc, lln, lna, lza])) | (show GD2 _ _ _ _ _ _ _ _ _ _ _ _ _ _; first | refine gd2_nil rfl ?_ | refine gd2_op (hk := ?_) | (refine gd2_nw (hk := ?_); intro u; try simp only [llc, lln, lna, lza]) | refine gd2_l (hk := ?_) | refine gd2_lp (hk := ?_) | (refine gd2_newp (hk := ?_); intro id) | refine gd2_st (hk := ?_) | (refine gd2_bsl rfl rfl ?_; intro u; try simp only [llc, lln, lna, lza]) | (refine gd2_a (hk := ?_); intro u; try simp only [llc, lln, lna, lza])) | (show GO _ _ _ _ _ (⟨none, none, _⟩ :: _) _; refine go_st (hk := ?_)) | (show GD _ _ _ _ _ _ _ (⟨none, none, _⟩ :: _) _; refine gd_st (hk := ?_)) | (show GO _ _ _ _ _ (⟨_, some _, _⟩ :: _) _; first | refine go_in (hk := ?_) | refine go_out (hk := ?_) | refine go_void (hk := ?_)) | (show GK _ _ _ _ (blockK _ _ _); refine gk_past rfl ?_) | (show GC _ _ _ _ _ (.cond _ _ _) _; first | refine gc_yes (h1 := ?_) | refine gc_no (h1 := ?_))))
    refine gd_is rfl (stp_quo (a := a) (b := ((Int.gcd a b : Nat) : Int)) (by exact rfl) (by exact rfl) (by omega) (by omega)) ?_
    (repeat (first | refine gst (hk := ?_) | (with_reducible first | (refine gc_drw (h := ?_); intro _) | (refine gc_drw2 (h := ?_); intro _)) | (show GO _ _ _ _ _ (⟨some _, none, _⟩ :: _) _; first | refine go_op (hk := ?_) | (refine go_nw (hk := ?_); intro u; try simp only [llc, lln, lna, lza]) | (refine go_np (hk := ?_); intro id)) | (show GD _ _ _ _ _ _ _ (⟨some _, none, _⟩ :: _) _; first | refine gd_op (hk := ?_) | (refine gd_nw (hk := ?_); intro u; try simp only [llc, lln, lna, lza])) | (show GD2 _ _ _ _ _ _ _ _ _ _ _ _ _ _; first | refine gd2_nil rfl ?_ | refine gd2_op (hk := ?_) | (refine gd2_nw (hk := ?_); intro u; try simp only [llc, lln, lna, lza]) | refine gd2_l (hk := ?_) | refine gd2_lp (hk := ?_) | (refine gd2_newp (hk := ?_); intro id) | refine gd2_st (hk := ?_) | (refine gd2_bsl rfl rfl ?_; intro u; try simp only [llc, lln, lna, lza]) | (refine gd2_a (hk := ?_); intro u; try simp only [llc, lln, lna, lza])) | (show GO _ _ _ _ _ (⟨none, none, _⟩ :: _) _; refine go_st (hk := ?_)) | (show GD _ _ _ _ _ _ _ (⟨none, none, _⟩ :: _) _; refine gd_st (hk := ?_)) | (show GO _ _ _ _ _ (⟨_, some _, _⟩ :: _) _; first | refine go_in (hk := ?_) | refine go_out (hk := ?_) | refine go_void (hk := ?_)) | (show GK _ _ _ _ (blockK _ _ _); refine gk_past rfl ?_) | (show GC _ _ _ _ _ (.cond _ _ _) _; first | refine gc_yes (h1 := ?_) | refine gc_no (h1 := ?_))))
    exact gk_retc rfl (by exact Sel.auto) rfl rfl fun H' hH => ⟨by rw [frV, e1, e2]; rfl, hH.leE⟩

/- what is reckoned with fractions, where the numbers are not too great -/

theorem add_nd (p q : Rat) : ((p.num * (q.den : Int) + q.num * (p.den : Int) : Int) : Rat) / (((p.den : Int) * (q.den : Int) : Int) : Rat) = p + q := by
  have h1 := rat_nd p
  have h2 := rat_nd q
  have h3 : ((p.den : Int) : Rat) ≠ 0 := rat_ne (by have := den_pos p; omega)
  have h4 : ((q.den : Int) : Rat) ≠ 0 := rat_ne (by have := den_pos q; omega)
  rw [Rat.intCast_add, Rat.intCast_mul, Rat.intCast_mul, Rat.intCast_mul, ← h1, ← h2]
  generalize ((p.den : Int) : Rat) = x at *
  generalize ((q.den : Int) : Rat) = y at *
  grind

theorem sub_nd (p q : Rat) : ((p.num * (q.den : Int) - q.num * (p.den : Int) : Int) : Rat) / (((p.den : Int) * (q.den : Int) : Int) : Rat) = p - q := by
  have h1 := rat_nd p
  have h2 := rat_nd q
  have h3 : ((p.den : Int) : Rat) ≠ 0 := rat_ne (by have := den_pos p; omega)
  have h4 : ((q.den : Int) : Rat) ≠ 0 := rat_ne (by have := den_pos q; omega)
  rw [Rat.intCast_sub, Rat.intCast_mul, Rat.intCast_mul, Rat.intCast_mul, ← h1, ← h2]
  generalize ((p.den : Int) : Rat) = x at *
  generalize ((q.den : Int) : Rat) = y at *
  grind

theorem mul_nd (p q : Rat) : ((p.num * q.num : Int) : Rat) / (((p.den : Int) * (q.den : Int) : Int) : Rat) = p * q := by
  have h1 := rat_nd p
  have h2 := rat_nd q
  have h3 : ((p.den : Int) : Rat) ≠ 0 := rat_ne (by have := den_pos p; omega)
  have h4 : ((q.den : Int) : Rat) ≠ 0 := rat_ne (by have := den_pos q; omega)
  rw [Rat.intCast_mul, Rat.intCast_mul, ← h1, ← h2]
  generalize ((p.den : Int) : Rat) = x at *
  generalize ((q.den : Int) : Rat) = y at *
  grind

/-- the products that are reckoned fit -/
def FitA (p q : Rat) : Prop := (-2000000000000000000 ≤ p.num * (q.den : Int) ∧ p.num * (q.den : Int) ≤ 2000000000000000000) ∧ (-2000000000000000000 ≤ q.num * (p.den : Int) ∧ q.num * (p.den : Int) ≤ 2000000000000000000) ∧ (p.den : Int) * (q.den : Int) ≤ 4000000000000000000

def FitM (p q : Rat) : Prop := (-4000000000000000000 ≤ p.num * q.num ∧ p.num * q.num ≤ 4000000000000000000) ∧ (p.den : Int) * (q.den : Int) ≤ 4000000000000000000

theorem dd_pos (p q : Rat) : 1 ≤ (p.den : Int) * (q.den : Int) := by
  have h1 := den_pos p
  have h2 := den_pos q
  have := Int.mul_pos (show 0 < (p.den : Int) by omega) (show 0 < (q.den : Int) by omega)
  omega

theorem specPlus_ok {H : Heap} {p q : Rat} (hf : FitA p q) :
    ACalls Try.prog fn_spec_plus [frV p, frV q] H fun r H' => r = frV (p + q) ∧ H' = H := by
  refine ACalls.val ?_ rfl
  obtain ⟨h1, h2, h3⟩ := hf
  have h4 := dd_pos p q
  unfold frV
  refine code_spec_plus.go [] trivial (by simp) ?_
  unfold mc_spec_plus
  (repeat (first | refine gst (hk := ?_) | (show GO _ _ _ _ _ (⟨some _, none, _⟩ :: _) _; first | refine go_op (hk := ?_) | (refine go_nw (hk := ?_); intro u; try simp only [llc, lln, lna, lza]) | (refine go_np (hk := ?_); intro id)) | (show GO _ _ _ _ _ (⟨none, none, _⟩ :: _) _; refine go_st (hk := ?_)) | (show GO _ _ _ _ _ (⟨_, some _, _⟩ :: _) _; first | refine go_in (hk := ?_) | refine go_out (hk := ?_) | refine go_void (hk := ?_)) | (show GK _ _ _ _ (blockK _ _ _); refine gk_past rfl ?_) | (show GC _ _ _ _ _ (.cond _ _ _) _; first | refine gc_yes (h1 := ?_) | refine gc_no (h1 := ?_))))
  refine go_callp rfl code_spec_frac.callable (fun H hH => frac_ok (by omega) (by omega) (by omega)) ?_
  rw [add_nd]
  (repeat (first | refine gst (hk := ?_) | (show GO _ _ _ _ _ (⟨some _, none, _⟩ :: _) _; first | refine go_op (hk := ?_) | (refine go_nw (hk := ?_); intro u; try simp only [llc, lln, lna, lza]) | (refine go_np (hk := ?_); intro id)) | (show GO _ _ _ _ _ (⟨none, none, _⟩ :: _) _; refine go_st (hk := ?_)) | (show GO _ _ _ _ _ (⟨_, some _, _⟩ :: _) _; first | refine go_in (hk := ?_) | refine go_out (hk := ?_) | refine go_void (hk := ?_)) | (show GK _ _ _ _ (blockK _ _ _); refine gk_past rfl ?_) | (show GC _ _ _ _ _ (.cond _ _ _) _; first | refine gc_yes (h1 := ?_) | refine gc_no (h1 := ?_))))
  exact gk_retc rfl (by exact Sel.auto) rfl rfl fun H' hH => ⟨rfl, hH.leE⟩

theorem specMinus_ok {H : Heap} {p q : Rat} (hf : FitA p q) :
    ACalls Try.prog fn_spec_minus [frV p, frV q] H fun r H' => r = frV (p - q) ∧ H' = H := by
  refine ACalls.val ?_ rfl
  obtain ⟨h1, h2, h3⟩ := hf
  have h4 := dd_pos p q
  unfold frV
  refine code_spec_minus.go [] trivial (by simp) ?_
  unfold mc_spec_minus
  (repeat (first | refine gst (hk := ?_) | (show GO _ _ _ _ _ (⟨some _, none, _⟩ :: _) _; first | refine go_op (hk := ?_) | (refine go_nw (hk := ?_); intro u; try simp only [llc, lln, lna, lza]) | (refine go_np (hk := ?_); intro id)) | (show GO _ _ _ _ _ (⟨none, none, _⟩ :: _) _; refine go_st (hk := ?_)) | (show GO _ _ _ _ _ (⟨_, some _, _⟩ :: _) _; first | refine go_in (hk := ?_) | refine go_out (hk := ?_) | refine go_void (hk := ?_)) | (show GK _ _ _ _ (blockK _ _ _); refine gk_past rfl ?_) | (show GC _ _ _ _ _ (.cond _ _ _) _; first | refine gc_yes (h1 := ?_) | refine gc_no (h1 := ?_))))
  refine go_callp rfl code_spec_frac.callable (fun H hH => frac_ok (by omega) (by omega) (by omega)) ?_
  rw [sub_nd]
  (repeat (first | refine gst (hk := ?_) | (show GO _ _ _ _ _ (⟨some _, none, _⟩ :: _) _; first | refine go_op (hk := ?_) | (refine go_nw (hk := ?_); intro u; try simp only [llc, lln, lna, lza]) | (refine go_np (hk := ?_); intro id)) | (show GO _ _ _ _ _ (⟨none, none, _⟩ :: _) _; refine go_st (hk := ?_)) | (show GO _ _ _ _ _ (⟨_, some _, _⟩ :: _) _; first | refine go_in (hk := ?_) | refine go_out (hk := ?_) | refine go_void (hk := ?_)) | (show GK _ _ _ _ (blockK _ _ _); refine gk_past rfl ?_) | (show GC _ _ _ _ _ (.cond _ _ _) _; first | refine gc_yes (h1 := ?_) | refine gc_no (h1 := ?_))))
  exact gk_retc rfl (by exact Sel.auto) rfl rfl fun H' hH => ⟨rfl, hH.leE⟩

theorem specTimes_ok {H : Heap} {p q : Rat} (hf : FitM p q) :
    ACalls Try.prog fn_spec_times [frV p, frV q] H fun r H' => r = frV (p * q) ∧ H' = H := by
  refine ACalls.val ?_ rfl
  obtain ⟨h1, h3⟩ := hf
  have h4 := dd_pos p q
  unfold frV
  refine code_spec_times.go [] trivial (by simp) ?_
  unfold mc_spec_times
  (repeat (first | refine gst (hk := ?_) | (show GO _ _ _ _ _ (⟨some _, none, _⟩ :: _) _; first | refine go_op (hk := ?_) | (refine go_nw (hk := ?_); intro u; try simp only [llc, lln, lna, lza]) | (refine go_np (hk := ?_); intro id)) | (show GO _ _ _ _ _ (⟨none, none, _⟩ :: _) _; refine go_st (hk := ?_)) | (show GO _ _ _ _ _ (⟨_, some _, _⟩ :: _) _; first | refine go_in (hk := ?_) | refine go_out (hk := ?_) | refine go_void (hk := ?_)) | (show GK _ _ _ _ (blockK _ _ _); refine gk_past rfl ?_) | (show GC _ _ _ _ _ (.cond _ _ _) _; first | refine gc_yes (h1 := ?_) | refine gc_no (h1 := ?_))))
  refine go_callp rfl code_spec_frac.callable (fun H hH => frac_ok (by omega) (by omega) (by omega)) ?_
  rw [mul_nd]
  (repeat (first | refine gst (hk := ?_) | (show GO _ _ _ _ _ (⟨some _, none, _⟩ :: _) _; first | refine go_op (hk := ?_) | (refine go_nw (hk := ?_); intro u; try simp only [llc, lln, lna, lza]) | (refine go_np (hk := ?_); intro id)) | (show GO _ _ _ _ _ (⟨none, none, _⟩ :: _) _; refine go_st (hk := ?_)) | (show GO _ _ _ _ _ (⟨_, some _, _⟩ :: _) _; first | refine go_in (hk := ?_) | refine go_out (hk := ?_) | refine go_void (hk := ?_)) | (show GK _ _ _ _ (blockK _ _ _); refine gk_past rfl ?_) | (show GC _ _ _ _ _ (.cond _ _ _) _; first | refine gc_yes (h1 := ?_) | refine gc_no (h1 := ?_))))
  exact gk_retc rfl (by exact Sel.auto) rfl rfl fun H' hH => ⟨rfl, hH.leE⟩

theorem specLess_ok {H : Heap} {p q : Rat} (hf : FitA p q) :
    ACalls Try.prog fn_spec_less [frV p, frV q] H fun r H' => r = .bool (decide (p < q)) ∧ H' = H := by
  refine ACalls.val ?_ rfl
  obtain ⟨h1, h2, h3⟩ := hf
  unfold frV
  refine code_spec_less.go [] trivial (by simp) ?_
  unfold mc_spec_less
  (repeat (first | refine gst (hk := ?_) | (show GO _ _ _ _ _ (⟨some _, none, _⟩ :: _) _; first | refine go_op (hk := ?_) | (refine go_nw (hk := ?_); intro u; try simp only [llc, lln, lna, lza]) | (refine go_np (hk := ?_); intro id)) | (show GO _ _ _ _ _ (⟨none, none, _⟩ :: _) _; refine go_st (hk := ?_)) | (show GO _ _ _ _ _ (⟨_, some _, _⟩ :: _) _; first | refine go_in (hk := ?_) | refine go_out (hk := ?_) | refine go_void (hk := ?_)) | (show GK _ _ _ _ (blockK _ _ _); refine gk_past rfl ?_) | (show GC _ _ _ _ _ (.cond _ _ _) _; first | refine gc_yes (h1 := ?_) | refine gc_no (h1 := ?_))))
  exact gk_ret rfl fun H' hH => ⟨by simp only [tupleOf, Rat.lt_iff], hH.leE⟩

theorem gc_drcs {P : Program} {A : Heap} {X : List Nat} {E : List (Nat × AV)} {S : Sig} {Q : Exit → St → Prop} {l : List MI} (Qt : Heap → FuncId → List AV → Option AV) (hq : ∀ H, SOk A X S H.size H → QtOk P (Qt H) H) (h : ∀ H, SOk A X S H.size H → GR P (Qt H) A X E S l (Q .normal)) : GC P A X E S (.drc l []) Q :=
  ⟨fun s hf => ⟨Qt s.H, hq s.H hf.ok, (h s.H hf.ok).g s [] hf⟩⟩

def RVs (A : Heap) (X : List Nat) (E : List (Nat × AV)) (S : Sig) (rs : List RV) (l : List AV) : Prop := ∀ s, Fit A X E S s → RV.all s rs = some l

theorem rvs_nil {A : Heap} {X : List Nat} {E : List (Nat × AV)} {S : Sig} : RVs A X E S [] [] := fun s _ => rfl

theorem rvs_t {A : Heap} {X : List Nat} {E : List (Nat × AV)} {S : Sig} {rs : List RV} {l : List AV} {i : Nat} {v : AV} (hl : look E i = some v) (h : RVs A X E S rs l) : RVs A X E S (.t i :: rs) (v :: l) := fun s hf => by
  simp only [RV.all, RV.get, hf.env _ _ hl, h s hf]

theorem rvs_c {A : Heap} {X : List Nat} {E : List (Nat × AV)} {S S0 : Sig} {rs : List RV} {l : List AV} {i n m es id : Nat} {ag : Bool} {cs : List AV} {v : AV} (hl : look E i = some (.ptr id 0)) (hs : Sel S ⟨.cell, .ptr id 0, es, m, cs⟩ S0) (hn : Nat.ble n cs.length = true) (hv : packC ag (cs.take n) = some v) (h : RVs A X E S rs l) : RVs A X E S (.c i n ag :: rs) (v :: l) := fun s hf => by
  have hc := (hf.ok.cellAt hs).1
  have e : RV.get s (.c i n ag) = some v := by
    simp only [RV.get, hf.env _ _ hl, Heap.read, hc]
    rw [if_pos (by have := Nat.le_of_ble_eq_true hn; omega)]
    simp only [List.drop_zero, hv]
  simp only [RV.all, e, h s hf]

theorem gk_rets {A : Heap} {X : List Nat} {E : List (Nat × AV)} {S : Sig} {rs : List RV} {l : List AV} {R : AV → Heap → Prop} (hr : RVs A X E S rs l) (h : ∀ H, SOk A X S H.size H → R (tupleOf l) H) : GK A X E S (retK rs R .ret) := by
  refine ⟨fun s hf => ?_⟩
  simp only [retK, hr s hf]
  exact h s.H hf.ok
/- families of fractions, in whatever memory -/

theorem frV_inj {p q : Rat} (h : frV p = frV q) : p = q := by
  unfold frV at h
  simp only [AV.agg.injEq, List.cons.injEq, AV.int.injEq, true_and, and_true] at h
  exact Rat.ext h.1 (by omega)

noncomputable def frOf (v : AV) : Option Rat := by
  classical
  exact if h : ∃ q, v = frV q then some (Classical.choose h) else none

theorem frOf_frV (q : Rat) : frOf (frV q) = some q := by
  unfold frOf
  have h : ∃ p, frV q = frV p := ⟨q, rfl⟩
  rw [dif_pos h, ← frV_inj (Classical.choose_spec h)]

theorem frOf_some {v : AV} {q : Rat} (h : frOf v = some q) : v = frV q := by
  unfold frOf at h
  split at h
  · rename_i h1
    simp only [Option.some.injEq] at h
    rw [← h]; exact Classical.choose_spec h1
  · cases h

/-- two fractions -/
noncomputable def fam2 (F : Rat → Rat → Prop) (g : Rat → Rat → AV) : List AV → Option AV
  | [v, w] => match frOf v, frOf w with
    | some p, some q => by
      classical
      exact if F p q then some (g p q) else none
    | _, _ => none
  | _ => none

theorem fam2_is {F : Rat → Rat → Prop} {g : Rat → Rat → AV} {p q : Rat} (h : F p q) : fam2 F g [frV p, frV q] = some (g p q) := by
  simp only [fam2, frOf_frV, if_pos h]

theorem fam2_ok {F : Rat → Rat → Prop} {g : Rat → Rat → AV} {f : FuncId} {P : Program} (hc : Callable P f) (h : ∀ {H : Heap} {p q : Rat}, F p q → ACalls P f [frV p, frV q] H fun r H' => r = g p q ∧ H' = H) (H : Heap) : FamOk P H f (fam2 F g) := by
  intro args v hv
  unfold fam2 at hv
  split at hv
  · split at hv
    · rename_i p q h1 h2
      split at hv
      · rename_i hF
        simp only [Option.some.injEq] at hv; subst hv
        rw [frOf_some h1, frOf_some h2]
        exact ⟨hc, h hF⟩
      · cases hv
    · cases hv
  · cases hv

def fracF (a b : Int) : Prop := (-4611686018427387904 ≤ a ∧ a ≤ 4611686018427387904) ∧ (-4611686018427387904 ≤ b ∧ b ≤ 4611686018427387904) ∧ b ≠ 0

instance (a b : Int) : Decidable (fracF a b) := by unfold fracF; exact inferInstance

def dFrac : List AV → Option AV
  | [.int .i64 a, .int .i64 b] => if fracF a b then some (frV ((a : Rat) / (b : Rat))) else none
  | _ => none

theorem dFrac_is {a b : Int} (ha : -4611686018427387904 ≤ a ∧ a ≤ 4611686018427387904) (hb : -4611686018427387904 ≤ b ∧ b ≤ 4611686018427387904) (h0 : b ≠ 0) : dFrac [.int .i64 a, .int .i64 b] = some (frV ((a : Rat) / (b : Rat))) := if_pos ⟨ha, hb, h0⟩

theorem dFrac_fam {f : FuncId} {P : Program} (hc : Callable P f) (h : ∀ {H : Heap} {a b : Int}, fracF a b → ACalls P f [.int .i64 a, .int .i64 b] H fun r H' => r = frV ((a : Rat) / (b : Rat)) ∧ H' = H) (H : Heap) : FamOk P H f dFrac := by
  intro args v hv
  unfold dFrac at hv
  split at hv
  · split at hv
    · rename_i h1
      simp only [Option.some.injEq] at hv; subst hv
      exact ⟨hc, h h1⟩
    · cases hv
  · cases hv

noncomputable def dPlus := fam2 FitA fun p q => frV (p + q)

noncomputable def dMinus := fam2 FitA fun p q => frV (p - q)

noncomputable def dTimes := fam2 FitM fun p q => frV (p * q)

theorem dFrac_ok (H : Heap) : FamOk Try.prog H fn_spec_frac dFrac := dFrac_fam code_spec_frac.callable (fun h => frac_ok h.1 h.2.1 h.2.2) H

theorem dPlus_ok (H : Heap) : FamOk Try.prog H fn_spec_plus dPlus := fam2_ok code_spec_plus.callable (fun h => specPlus_ok h) H

theorem dMinus_ok (H : Heap) : FamOk Try.prog H fn_spec_minus dMinus := fam2_ok code_spec_minus.callable (fun h => specMinus_ok h) H

theorem dTimes_ok (H : Heap) : FamOk Try.prog H fn_spec_times dTimes := fam2_ok code_spec_times.callable (fun h => specTimes_ok h) H

/- what fits -/

theorem fitA_of {p q : Rat} {D E A B : Int} (hp : FD p D A) (hq : FD q E B) (h1 : A * E ≤ 2000000000000000000) (h2 : B * D ≤ 2000000000000000000) (h3 : D * E ≤ 4000000000000000000) : FitA p q := by
  obtain ⟨a1, a2, a3⟩ := hp.nd
  obtain ⟨b1, b2, b3⟩ := hq.nd
  have m1 := absmul (k := p.num) (l := (q.den : Int)) (A := A) (B := E) (by omega) (by omega) (by omega) (by omega)
  have m2 := absmul (k := q.num) (l := (p.den : Int)) (A := B) (B := D) (by omega) (by omega) (by omega) (by omega)
  have m3 := absmul (k := (p.den : Int)) (l := (q.den : Int)) (A := D) (B := E) (by omega) (by omega) (by omega) (by omega)
  exact ⟨by omega, by omega, by omega⟩

theorem fitM_of {p q : Rat} {D E A B : Int} (hp : FD p D A) (hq : FD q E B) (h1 : A * B ≤ 4000000000000000000) (h3 : D * E ≤ 4000000000000000000) : FitM p q := by
  obtain ⟨a1, a2, a3⟩ := hp.nd
  obtain ⟨b1, b2, b3⟩ := hq.nd
  have m1 := absmul (k := p.num) (l := q.num) (A := A) (B := B) (by omega) (by omega) (by omega) (by omega)
  have m3 := absmul (k := (p.den : Int)) (l := (q.den : Int)) (A := D) (B := E) (by omega) (by omega) (by omega) (by omega)
  exact ⟨by omega, by omega⟩

theorem mulbd {a b A B : Int} (ha : 0 ≤ a) (hb : 0 ≤ b) (h1 : a ≤ A) (h2 : b ≤ B) : a * b ≤ A * B :=
  Int.le_trans (Int.mul_le_mul_of_nonneg_right h1 hb) (Int.mul_le_mul_of_nonneg_left h2 (by omega))

theorem FD.pos {q : Rat} {D B : Int} (h : FD q D B) : 0 < D ∧ 0 ≤ B := by
  obtain ⟨hD, k, h1, h2, h3⟩ := h
  exact ⟨hD, by omega⟩

theorem rat_one (n : Int) : (n : Rat) / ((1 : Int) : Rat) = (n : Rat) := by
  rw [show ((1 : Int) : Rat) = 1 from rfl, Rat.div_def]
  have : (1 : Rat)⁻¹ = 1 := by grind
  rw [this, Rat.mul_one]

/-- the slope, the height: of a common D -/
structure LineOk (s h : Rat) (D A B : Int) : Prop where
  s : FD s D A
  h : FD h D B
  d : D ≤ 1000000
  a : A ≤ 1000000000
  b : B ≤ 10000000000

theorem LineOk.mid {s h : Rat} {D A B : Int} (hl : LineOk s h D A B) {x : Int} (hx : -24 ≤ x ∧ x ≤ 24) : FD (s * (x : Rat)) D (A * 24) := (hl.s.mul (FD.int hx)).to (by omega)

theorem LineOk.over {s h : Rat} {D A B : Int} (hl : LineOk s h D A B) {x y : Int} (hx : -24 ≤ x ∧ x ≤ 24) (hy : -24 ≤ y ∧ y ≤ 24) : FD ((y : Rat) - (s * (x : Rat) + h)) D (24 * D + (A * 24 + B)) := by
  have h1 := ((FD.int hy).lift (m := D) hl.s.pos.1).to (D' := D) (by omega)
  exact h1.sub ((hl.mid hx).add hl.h)

theorem LineOk.fits {s h : Rat} {D A B : Int} (hl : LineOk s h D A B) {x y : Int} (hx : -24 ≤ x ∧ x ≤ 24) (hy : -24 ≤ y ∧ y ≤ 24) : FitM s (x : Rat) ∧ FitA (s * (x : Rat)) h ∧ FitA (y : Rat) (s * (x : Rat) + h) := by
  obtain ⟨p1, p2⟩ := hl.s.pos
  obtain ⟨p3, p4⟩ := hl.h.pos
  have hd := hl.d
  have ha := hl.a
  have hb := hl.b
  have m1 := mulbd (a := A * 24) (b := D) (A := 24000000000) (B := 1000000) (by omega) (by omega) (by omega) hd
  have m2 := mulbd (a := B) (b := D) (A := 10000000000) (B := 1000000) (by omega) (by omega) hb hd
  have m3 := mulbd (a := D) (b := D) (A := 1000000) (B := 1000000) (by omega) (by omega) hd hd
  refine ⟨fitM_of hl.s (FD.int hx) (by omega) (by omega), fitA_of (hl.mid hx) hl.h (by omega) (by omega) (by omega), fitA_of (FD.int hy) ((hl.mid hx).add hl.h) (by omega) (by omega) (by omega)⟩

theorem specOver_ok {H : Heap} {x y : Int} {s h : Rat} {D A B : Int} (hx : -24 ≤ x ∧ x ≤ 24) (hy : -24 ≤ y ∧ y ≤ 24) (hl : LineOk s h D A B) :
    ACalls Try.prog fn_spec_over [.int .i64 x, .int .i64 y, frV s, frV h] H fun r H' => r = frV ((y : Rat) - (s * (x : Rat) + h)) ∧ H' = H := by
  refine ACalls.val ?_ rfl
  obtain ⟨f1, f2, f3⟩ := hl.fits hx hy
  refine code_spec_over.go [] trivial (by simp) ?_
  unfold mc_spec_over
  (repeat (first | refine gst (hk := ?_) | (show GO _ _ _ _ _ (⟨some _, none, _⟩ :: _) _; first | refine go_op (hk := ?_) | (refine go_nw (hk := ?_); intro u; try simp only [llc, lln, lna, lza]) | (refine go_np (hk := ?_); intro id)) | (show GR _ _ _ _ _ _ (⟨some _, none, _⟩ :: _) _; refine gr_op (hk := ?_)) | (show GO _ _ _ _ _ (⟨none, none, _⟩ :: _) _; refine go_st (hk := ?_)) | (show GR _ _ _ _ _ _ (⟨none, none, _⟩ :: _) _; refine gr_st (hk := ?_)) | (show GO _ _ _ _ _ (⟨_, some _, _⟩ :: _) _; first | refine go_in (hk := ?_) | refine go_out (hk := ?_) | refine go_void (hk := ?_)) | (show GK _ _ _ _ (blockK _ _ _); refine gk_past rfl ?_) | (show GC _ _ _ _ _ (.cond _ _ _) _; first | refine gc_yes (h1 := ?_) | refine gc_no (h1 := ?_))))
  refine gc_drc (fun _ => qtTab [(fn_spec_frac, dFrac), (fn_spec_times, dTimes), (fn_spec_plus, dPlus), (fn_spec_minus, dMinus)]) (fun H _ => qtTab_cons (dFrac_ok H) (qtTab_cons (dTimes_ok H) (qtTab_cons (dPlus_ok H) (qtTab_cons (dMinus_ok H) qtTab_nil)))) (fun H0 => ?_)
  (repeat (first | refine gst (hk := ?_) | (show GO _ _ _ _ _ (⟨some _, none, _⟩ :: _) _; first | refine go_op (hk := ?_) | (refine go_nw (hk := ?_); intro u; try simp only [llc, lln, lna, lza]) | (refine go_np (hk := ?_); intro id)) | (show GR _ _ _ _ _ _ (⟨some _, none, _⟩ :: _) _; refine gr_op (hk := ?_)) | (show GO _ _ _ _ _ (⟨none, none, _⟩ :: _) _; refine go_st (hk := ?_)) | (show GR _ _ _ _ _ _ (⟨none, none, _⟩ :: _) _; refine gr_st (hk := ?_)) | (show GO _ _ _ _ _ (⟨_, some _, _⟩ :: _) _; first | refine go_in (hk := ?_) | refine go_out (hk := ?_) | refine go_void (hk := ?_)) | (show GK _ _ _ _ (blockK _ _ _); refine gk_past rfl ?_) | (show GC _ _ _ _ _ (.cond _ _ _) _; first | refine gc_yes (h1 := ?_) | refine gc_no (h1 := ?_))))
  refine gr_call rfl (dFrac_is (by omega) (by omega) (by omega)) ?_
  rw [rat_one]
  (repeat (first | refine gst (hk := ?_) | (show GO _ _ _ _ _ (⟨some _, none, _⟩ :: _) _; first | refine go_op (hk := ?_) | (refine go_nw (hk := ?_); intro u; try simp only [llc, lln, lna, lza]) | (refine go_np (hk := ?_); intro id)) | (show GR _ _ _ _ _ _ (⟨some _, none, _⟩ :: _) _; refine gr_op (hk := ?_)) | (show GO _ _ _ _ _ (⟨none, none, _⟩ :: _) _; refine go_st (hk := ?_)) | (show GR _ _ _ _ _ _ (⟨none, none, _⟩ :: _) _; refine gr_st (hk := ?_)) | (show GO _ _ _ _ _ (⟨_, some _, _⟩ :: _) _; first | refine go_in (hk := ?_) | refine go_out (hk := ?_) | refine go_void (hk := ?_)) | (show GK _ _ _ _ (blockK _ _ _); refine gk_past rfl ?_) | (show GC _ _ _ _ _ (.cond _ _ _) _; first | refine gc_yes (h1 := ?_) | refine gc_no (h1 := ?_))))
  refine gr_call rfl (dFrac_is (by omega) (by omega) (by omega)) ?_
  rw [rat_one]
  refine gr_call rfl (fam2_is (F := FitM) (p := s) (q := (x : Rat)) f1) ?_
  (repeat (first | refine gst (hk := ?_) | (show GO _ _ _ _ _ (⟨some _, none, _⟩ :: _) _; first | refine go_op (hk := ?_) | (refine go_nw (hk := ?_); intro u; try simp only [llc, lln, lna, lza]) | (refine go_np (hk := ?_); intro id)) | (show GR _ _ _ _ _ _ (⟨some _, none, _⟩ :: _) _; refine gr_op (hk := ?_)) | (show GO _ _ _ _ _ (⟨none, none, _⟩ :: _) _; refine go_st (hk := ?_)) | (show GR _ _ _ _ _ _ (⟨none, none, _⟩ :: _) _; refine gr_st (hk := ?_)) | (show GO _ _ _ _ _ (⟨_, some _, _⟩ :: _) _; first | refine go_in (hk := ?_) | refine go_out (hk := ?_) | refine go_void (hk := ?_)) | (show GK _ _ _ _ (blockK _ _ _); refine gk_past rfl ?_) | (show GC _ _ _ _ _ (.cond _ _ _) _; first | refine gc_yes (h1 := ?_) | refine gc_no (h1 := ?_))))
  refine gr_call rfl (fam2_is (F := FitA) (p := s * (x : Rat)) (q := h) f2) ?_
  refine gr_call rfl (fam2_is (F := FitA) (p := (y : Rat)) (q := s * (x : Rat) + h) f3) ?_
  (repeat (first | refine gst (hk := ?_) | (show GO _ _ _ _ _ (⟨some _, none, _⟩ :: _) _; first | refine go_op (hk := ?_) | (refine go_nw (hk := ?_); intro u; try simp only [llc, lln, lna, lza]) | (refine go_np (hk := ?_); intro id)) | (show GR _ _ _ _ _ _ (⟨some _, none, _⟩ :: _) _; refine gr_op (hk := ?_)) | (show GO _ _ _ _ _ (⟨none, none, _⟩ :: _) _; refine go_st (hk := ?_)) | (show GR _ _ _ _ _ _ (⟨none, none, _⟩ :: _) _; refine gr_st (hk := ?_)) | (show GO _ _ _ _ _ (⟨_, some _, _⟩ :: _) _; first | refine go_in (hk := ?_) | refine go_out (hk := ?_) | refine go_void (hk := ?_)) | (show GK _ _ _ _ (blockK _ _ _); refine gk_past rfl ?_) | (show GC _ _ _ _ _ (.cond _ _ _) _; first | refine gc_yes (h1 := ?_) | refine gc_no (h1 := ?_))))
  exact gk_retc rfl (by exact Sel.auto) rfl rfl fun H' hH => ⟨rfl, hH.leE⟩

def PtsT (xs ys : List Int) (n : Nat) : Prop := ∀ i, i < n → i < ys.length ∧ (-12 ≤ nth xs i ∧ nth xs i ≤ 12) ∧ (-12 ≤ nth ys i ∧ nth ys i ≤ 12)

def Pts (xs ys : List Int) : Prop := PtsT xs ys xs.length ∧ xs.length = ys.length ∧ xs.length ≤ 7

def Wide (xs : List Int) : Prop := ∃ i, 1 ≤ i ∧ i < xs.length ∧ nth xs i ≠ nth xs 0

def Cloud (xs ys : List Int) : Prop := Pts xs ys ∧ Wide xs

noncomputable instance (xs ys : List Int) : Decidable (Pts xs ys) := Classical.propDecidable _

noncomputable instance (xs : List Int) : Decidable (Wide xs) := Classical.propDecidable _

noncomputable instance (xs ys : List Int) : Decidable (Cloud xs ys) := Classical.propDecidable _

theorem PtsT.succ {xs ys : List Int} {i : Nat} (h : PtsT xs ys i) (h1 : i < ys.length) (h2 : -12 ≤ nth xs i ∧ nth xs i ≤ 12) (h3 : -12 ≤ nth ys i ∧ nth ys i ≤ 12) : PtsT xs ys (i + 1) := by
  intro k hk
  rcases Nat.lt_or_ge k i with h4 | h4
  · exact h k h4
  · rw [show k = i by omega]; exact ⟨h1, h2, h3⟩

theorem specValidPoints_ok {H : Heap} {a b : AV} {xs ys : List Int} (ha : Ints H a xs) (hb : Ints H b ys) (hl : xs.length ≤ 1000000000) (hl' : ys.length ≤ 1000000000) :
    ACalls Try.prog fn_spec_validPoints [a, b] H fun r H' => r = .bool (decide (Pts xs ys)) ∧ H' = H := by
  refine ACalls.val ?_ rfl
  refine code_spec_validPoints.go [.roI a xs.length xs, .roI b ys.length ys] ⟨⟨rfl, ha⟩, ⟨rfl, hb⟩, trivial⟩ (by simp) ?_
  unfold mc_spec_validPoints
  (repeat (first | refine gst (hk := ?_) | (show GO _ _ _ _ _ (⟨some _, none, .call _ _⟩ :: _) _; first | (show GO _ _ _ _ _ (⟨some _, none, .call fn_spec_inRange _⟩ :: _) _; refine go_inRange (hk := ?_); try intro u)) | (show GO _ _ _ _ _ (⟨some _, none, _⟩ :: _) _; first | refine go_op (hk := ?_) | (refine go_nw (hk := ?_); intro u; try simp only [llc, lln, lna, lza]) | (refine go_np (hk := ?_); intro id)) | (show GO _ _ _ _ _ (⟨none, none, _⟩ :: _) _; refine go_st (hk := ?_)) | (show GO _ _ _ _ _ (⟨_, some _, _⟩ :: _) _; first | refine go_in (hk := ?_) | refine go_out (hk := ?_) | refine go_void (hk := ?_)) | (show GK _ _ _ _ (blockK _ _ _); refine gk_past rfl ?_) | (show GC _ _ _ _ _ (.cond _ _ _) _; first | refine gc_yes (h1 := ?_) | refine gc_no (h1 := ?_))))
  refine gc_loop (γ := Nat) (fun i => [(0, a), (1, b), (5, .int .i64 (i : Int))]) (fun _ => [.roI a xs.length xs, .roI b ys.length ys]) (fun i => i ≤ xs.length ∧ PtsT xs ys i) (fun i => xs.length - i) 0 ⟨Nat.zero_le _, fun k hk => by omega⟩ (hb := ?_)
  rintro i ⟨hi, hp⟩ I ν m hk
  (repeat (first | refine gst (hk := ?_) | (show GO _ _ _ _ _ (⟨some _, none, .call _ _⟩ :: _) _; first | (show GO _ _ _ _ _ (⟨some _, none, .call fn_spec_inRange _⟩ :: _) _; refine go_inRange (hk := ?_); try intro u)) | (show GO _ _ _ _ _ (⟨some _, none, _⟩ :: _) _; first | refine go_op (hk := ?_) | (refine go_nw (hk := ?_); intro u; try simp only [llc, lln, lna, lza]) | (refine go_np (hk := ?_); intro id)) | (show GO _ _ _ _ _ (⟨none, none, _⟩ :: _) _; refine go_st (hk := ?_)) | (show GO _ _ _ _ _ (⟨_, some _, _⟩ :: _) _; first | refine go_in (hk := ?_) | refine go_out (hk := ?_) | refine go_void (hk := ?_)) | (show GK _ _ _ _ (blockK _ _ _); refine gk_past rfl ?_) | (show GC _ _ _ _ _ (.cond _ _ _) _; first | refine gc_yes (h1 := ?_) | refine gc_no (h1 := ?_))))
  refine gc_cond rfl (fun h => ?_) (fun h => ?_)
  · have no : ∀ {p : Prop}, (Pts xs ys → p) → ¬ p → decide (Pts xs ys) = false := fun h1 h2 => decide_eq_false fun h3 => h2 (h1 h3)
    (repeat (first | refine gst (hk := ?_) | (show GO _ _ _ _ _ (⟨some _, none, .call _ _⟩ :: _) _; first | (show GO _ _ _ _ _ (⟨some _, none, .call fn_spec_inRange _⟩ :: _) _; refine go_inRange (hk := ?_); try intro u)) | (show GO _ _ _ _ _ (⟨some _, none, _⟩ :: _) _; first | refine go_op (hk := ?_) | (refine go_nw (hk := ?_); intro u; try simp only [llc, lln, lna, lza]) | (refine go_np (hk := ?_); intro id)) | (show GO _ _ _ _ _ (⟨none, none, _⟩ :: _) _; refine go_st (hk := ?_)) | (show GO _ _ _ _ _ (⟨_, some _, _⟩ :: _) _; first | refine go_in (hk := ?_) | refine go_out (hk := ?_) | refine go_void (hk := ?_)) | (show GK _ _ _ _ (blockK _ _ _); refine gk_past rfl ?_) | (show GC _ _ _ _ _ (.cond _ _ _) _; first | refine gc_yes (h1 := ?_) | refine gc_no (h1 := ?_))))
    refine go_split 16 rfl (fun h1 => ?_) (fun h1 => ?_)
    · (repeat (first | refine gst (hk := ?_) | (show GO _ _ _ _ _ (⟨some _, none, .call _ _⟩ :: _) _; first | (show GO _ _ _ _ _ (⟨some _, none, .call fn_spec_inRange _⟩ :: _) _; refine go_inRange (hk := ?_); try intro u)) | (show GO _ _ _ _ _ (⟨some _, none, _⟩ :: _) _; first | refine go_op (hk := ?_) | (refine go_nw (hk := ?_); intro u; try simp only [llc, lln, lna, lza]) | (refine go_np (hk := ?_); intro id)) | (show GO _ _ _ _ _ (⟨none, none, _⟩ :: _) _; refine go_st (hk := ?_)) | (show GO _ _ _ _ _ (⟨_, some _, _⟩ :: _) _; first | refine go_in (hk := ?_) | refine go_out (hk := ?_) | refine go_void (hk := ?_)) | (show GK _ _ _ _ (blockK _ _ _); refine gk_past rfl ?_) | (show GC _ _ _ _ _ (.cond _ _ _) _; first | refine gc_yes (h1 := ?_) | refine gc_no (h1 := ?_))))
      exact gk_ret rfl fun H' hH => ⟨by rw [no (fun h => (h.1 i (by omega)).1) (by omega)]; rfl, hH.leE⟩
    (repeat (first | refine gst (hk := ?_) | (show GO _ _ _ _ _ (⟨some _, none, .call _ _⟩ :: _) _; first | (show GO _ _ _ _ _ (⟨some _, none, .call fn_spec_inRange _⟩ :: _) _; refine go_inRange (hk := ?_); try intro u)) | (show GO _ _ _ _ _ (⟨some _, none, _⟩ :: _) _; first | refine go_op (hk := ?_) | (refine go_nw (hk := ?_); intro u; try simp only [llc, lln, lna, lza]) | (refine go_np (hk := ?_); intro id)) | (show GO _ _ _ _ _ (⟨none, none, _⟩ :: _) _; refine go_st (hk := ?_)) | (show GO _ _ _ _ _ (⟨_, some _, _⟩ :: _) _; first | refine go_in (hk := ?_) | refine go_out (hk := ?_) | refine go_void (hk := ?_)) | (show GK _ _ _ _ (blockK _ _ _); refine gk_past rfl ?_) | (show GC _ _ _ _ _ (.cond _ _ _) _; first | refine gc_yes (h1 := ?_) | refine gc_no (h1 := ?_))))
    refine go_split 24 rfl (fun h2 => ?_) (fun h2 => ?_)
    · (repeat (first | refine gst (hk := ?_) | (show GO _ _ _ _ _ (⟨some _, none, .call _ _⟩ :: _) _; first | (show GO _ _ _ _ _ (⟨some _, none, .call fn_spec_inRange _⟩ :: _) _; refine go_inRange (hk := ?_); try intro u)) | (show GO _ _ _ _ _ (⟨some _, none, _⟩ :: _) _; first | refine go_op (hk := ?_) | (refine go_nw (hk := ?_); intro u; try simp only [llc, lln, lna, lza]) | (refine go_np (hk := ?_); intro id)) | (show GO _ _ _ _ _ (⟨none, none, _⟩ :: _) _; refine go_st (hk := ?_)) | (show GO _ _ _ _ _ (⟨_, some _, _⟩ :: _) _; first | refine go_in (hk := ?_) | refine go_out (hk := ?_) | refine go_void (hk := ?_)) | (show GK _ _ _ _ (blockK _ _ _); refine gk_past rfl ?_) | (show GC _ _ _ _ _ (.cond _ _ _) _; first | refine gc_yes (h1 := ?_) | refine gc_no (h1 := ?_))))
      exact gk_ret rfl fun H' hH => ⟨by rw [no (fun h => (h.1 i (by omega)).2.1) h2]; rfl, hH.leE⟩
    (repeat (first | refine gst (hk := ?_) | (show GO _ _ _ _ _ (⟨some _, none, .call _ _⟩ :: _) _; first | (show GO _ _ _ _ _ (⟨some _, none, .call fn_spec_inRange _⟩ :: _) _; refine go_inRange (hk := ?_); try intro u)) | (show GO _ _ _ _ _ (⟨some _, none, _⟩ :: _) _; first | refine go_op (hk := ?_) | (refine go_nw (hk := ?_); intro u; try simp only [llc, lln, lna, lza]) | (refine go_np (hk := ?_); intro id)) | (show GO _ _ _ _ _ (⟨none, none, _⟩ :: _) _; refine go_st (hk := ?_)) | (show GO _ _ _ _ _ (⟨_, some _, _⟩ :: _) _; first | refine go_in (hk := ?_) | refine go_out (hk := ?_) | refine go_void (hk := ?_)) | (show GK _ _ _ _ (blockK _ _ _); refine gk_past rfl ?_) | (show GC _ _ _ _ _ (.cond _ _ _) _; first | refine gc_yes (h1 := ?_) | refine gc_no (h1 := ?_))))
    refine gc_cond rfl (fun h3 => ?_) (fun h3 => ?_)
    · (repeat (first | refine gst (hk := ?_) | (show GO _ _ _ _ _ (⟨some _, none, .call _ _⟩ :: _) _; first | (show GO _ _ _ _ _ (⟨some _, none, .call fn_spec_inRange _⟩ :: _) _; refine go_inRange (hk := ?_); try intro u)) | (show GO _ _ _ _ _ (⟨some _, none, _⟩ :: _) _; first | refine go_op (hk := ?_) | (refine go_nw (hk := ?_); intro u; try simp only [llc, lln, lna, lza]) | (refine go_np (hk := ?_); intro id)) | (show GO _ _ _ _ _ (⟨none, none, _⟩ :: _) _; refine go_st (hk := ?_)) | (show GO _ _ _ _ _ (⟨_, some _, _⟩ :: _) _; first | refine go_in (hk := ?_) | refine go_out (hk := ?_) | refine go_void (hk := ?_)) | (show GK _ _ _ _ (blockK _ _ _); refine gk_past rfl ?_) | (show GC _ _ _ _ _ (.cond _ _ _) _; first | refine gc_yes (h1 := ?_) | refine gc_no (h1 := ?_))))
      exact gk_ret rfl fun H' hH => ⟨by rw [no (fun h => (h.1 i (by omega)).2.2) h3]; rfl, hH.leE⟩
    (repeat (first | refine gst (hk := ?_) | (show GO _ _ _ _ _ (⟨some _, none, .call _ _⟩ :: _) _; first | (show GO _ _ _ _ _ (⟨some _, none, .call fn_spec_inRange _⟩ :: _) _; refine go_inRange (hk := ?_); try intro u)) | (show GO _ _ _ _ _ (⟨some _, none, _⟩ :: _) _; first | refine go_op (hk := ?_) | (refine go_nw (hk := ?_); intro u; try simp only [llc, lln, lna, lza]) | (refine go_np (hk := ?_); intro id)) | (show GO _ _ _ _ _ (⟨none, none, _⟩ :: _) _; refine go_st (hk := ?_)) | (show GO _ _ _ _ _ (⟨_, some _, _⟩ :: _) _; first | refine go_in (hk := ?_) | refine go_out (hk := ?_) | refine go_void (hk := ?_)) | (show GK _ _ _ _ (blockK _ _ _); refine gk_past rfl ?_) | (show GC _ _ _ _ _ (.cond _ _ _) _; first | refine gc_yes (h1 := ?_) | refine gc_no (h1 := ?_))))
    exact gk_next (hk (i + 1) ⟨by omega, hp.succ (by omega) (Decidable.not_not.1 h2) (Decidable.not_not.1 h3)⟩ (by omega))
  · have : i = xs.length := by omega
    subst this
    (repeat (first | refine gst (hk := ?_) | (show GO _ _ _ _ _ (⟨some _, none, .call _ _⟩ :: _) _; first | (show GO _ _ _ _ _ (⟨some _, none, .call fn_spec_inRange _⟩ :: _) _; refine go_inRange (hk := ?_); try intro u)) | (show GO _ _ _ _ _ (⟨some _, none, _⟩ :: _) _; first | refine go_op (hk := ?_) | (refine go_nw (hk := ?_); intro u; try simp only [llc, lln, lna, lza]) | (refine go_np (hk := ?_); intro id)) | (show GO _ _ _ _ _ (⟨none, none, _⟩ :: _) _; refine go_st (hk := ?_)) | (show GO _ _ _ _ _ (⟨_, some _, _⟩ :: _) _; first | refine go_in (hk := ?_) | refine go_out (hk := ?_) | refine go_void (hk := ?_)) | (show GK _ _ _ _ (blockK _ _ _); refine gk_past rfl ?_) | (show GC _ _ _ _ _ (.cond _ _ _) _; first | refine gc_yes (h1 := ?_) | refine gc_no (h1 := ?_))))
    refine go_split 37 rfl (fun h1 => ?_) (fun h1 => ?_)
    · (repeat (first | refine gst (hk := ?_) | (show GO _ _ _ _ _ (⟨some _, none, .call _ _⟩ :: _) _; first | (show GO _ _ _ _ _ (⟨some _, none, .call fn_spec_inRange _⟩ :: _) _; refine go_inRange (hk := ?_); try intro u)) | (show GO _ _ _ _ _ (⟨some _, none, _⟩ :: _) _; first | refine go_op (hk := ?_) | (refine go_nw (hk := ?_); intro u; try simp only [llc, lln, lna, lza]) | (refine go_np (hk := ?_); intro id)) | (show GO _ _ _ _ _ (⟨none, none, _⟩ :: _) _; refine go_st (hk := ?_)) | (show GO _ _ _ _ _ (⟨_, some _, _⟩ :: _) _; first | refine go_in (hk := ?_) | refine go_out (hk := ?_) | refine go_void (hk := ?_)) | (show GK _ _ _ _ (blockK _ _ _); refine gk_past rfl ?_) | (show GC _ _ _ _ _ (.cond _ _ _) _; first | refine gc_yes (h1 := ?_) | refine gc_no (h1 := ?_))))
      exact gk_ret rfl fun H' hH => ⟨by
        simp only [tupleOf]; congr 1
        refine decide_eq_decide.2 ⟨fun h2 => ⟨hp, by omega, by omega⟩, fun h2 => by have := h2.2.2; omega⟩, hH.leE⟩
    · (repeat (first | refine gst (hk := ?_) | (show GO _ _ _ _ _ (⟨some _, none, .call _ _⟩ :: _) _; first | (show GO _ _ _ _ _ (⟨some _, none, .call fn_spec_inRange _⟩ :: _) _; refine go_inRange (hk := ?_); try intro u)) | (show GO _ _ _ _ _ (⟨some _, none, _⟩ :: _) _; first | refine go_op (hk := ?_) | (refine go_nw (hk := ?_); intro u; try simp only [llc, lln, lna, lza]) | (refine go_np (hk := ?_); intro id)) | (show GO _ _ _ _ _ (⟨none, none, _⟩ :: _) _; refine go_st (hk := ?_)) | (show GO _ _ _ _ _ (⟨_, some _, _⟩ :: _) _; first | refine go_in (hk := ?_) | refine go_out (hk := ?_) | refine go_void (hk := ?_)) | (show GK _ _ _ _ (blockK _ _ _); refine gk_past rfl ?_) | (show GC _ _ _ _ _ (.cond _ _ _) _; first | refine gc_yes (h1 := ?_) | refine gc_no (h1 := ?_))))
      exact gk_ret rfl fun H' hH => ⟨by
        simp only [tupleOf]; congr 1
        exact (decide_eq_false fun h2 => h1 (by have := h2.2.1; omega)).symm, hH.leE⟩

theorem specWide_ok {H : Heap} {a : AV} {xs : List Int} (ha : Ints H a xs) (hl : xs.length ≤ 1000000000) :
    ACalls Try.prog fn_spec_wide [a] H fun r H' => r = .bool (decide (Wide xs)) ∧ H' = H := by
  refine ACalls.val ?_ rfl
  refine code_spec_wide.go [.roI a xs.length xs] ⟨⟨rfl, ha⟩, trivial⟩ (by simp) ?_
  unfold mc_spec_wide
  (repeat (first | refine gst (hk := ?_) | (with_reducible refine gc_drq ?_; intro _) | (show GO _ _ _ _ _ (⟨some _, none, _⟩ :: _) _; first | refine go_op (hk := ?_) | (refine go_nw (hk := ?_); intro u; try simp only [llc, lln, lna, lza]) | (refine go_np (hk := ?_); intro id)) | (show GQ _ _ _ _ _ _ _ (⟨some _, none, _⟩ :: _) _; first | refine gq_op (hk := ?_) | (refine gq_nw (hk := ?_); intro u; try simp only [llc, lln, lna, lza])) | (show GO _ _ _ _ _ (⟨none, none, _⟩ :: _) _; refine go_st (hk := ?_)) | (show GO _ _ _ _ _ (⟨_, some _, _⟩ :: _) _; first | refine go_in (hk := ?_) | refine go_out (hk := ?_) | refine go_void (hk := ?_)) | (show GQ _ _ _ _ _ _ _ (⟨_, some _, _⟩ :: _) _; first | refine gq_in (hk := ?_) | refine gq_out (hk := ?_) | refine gq_void (hk := ?_)) | (show GK _ _ _ _ (blockK _ _ _); refine gk_past rfl ?_) | (show GC _ _ _ _ _ (.cond _ _ _) _; first | refine gc_yes (h1 := ?_) | refine gc_no (h1 := ?_))))
  refine gc_loop (γ := Nat) (fun i => [(0, a), (3, .int .i64 ((i + 1 : Nat) : Int))]) (fun _ => [.roI a xs.length xs]) (fun i => i ≤ xs.length ∧ ∀ k, 1 ≤ k → k < i + 1 → nth xs k = nth xs 0) (fun i => xs.length - i) 0 ⟨Nat.zero_le _, fun k _ hk => by omega⟩ (hb := ?_)
  rintro i ⟨hi, hp⟩ I ν m hk
  (repeat (first | refine gst (hk := ?_) | (with_reducible refine gc_drq ?_; intro _) | (show GO _ _ _ _ _ (⟨some _, none, _⟩ :: _) _; first | refine go_op (hk := ?_) | (refine go_nw (hk := ?_); intro u; try simp only [llc, lln, lna, lza]) | (refine go_np (hk := ?_); intro id)) | (show GQ _ _ _ _ _ _ _ (⟨some _, none, _⟩ :: _) _; first | refine gq_op (hk := ?_) | (refine gq_nw (hk := ?_); intro u; try simp only [llc, lln, lna, lza])) | (show GO _ _ _ _ _ (⟨none, none, _⟩ :: _) _; refine go_st (hk := ?_)) | (show GO _ _ _ _ _ (⟨_, some _, _⟩ :: _) _; first | refine go_in (hk := ?_) | refine go_out (hk := ?_) | refine go_void (hk := ?_)) | (show GQ _ _ _ _ _ _ _ (⟨_, some _, _⟩ :: _) _; first | refine gq_in (hk := ?_) | refine gq_out (hk := ?_) | refine gq_void (hk := ?_)) | (show GK _ _ _ _ (blockK _ _ _); refine gk_past rfl ?_) | (show GC _ _ _ _ _ (.cond _ _ _) _; first | refine gc_yes (h1 := ?_) | refine gc_no (h1 := ?_))))
  refine gc_cond rfl (fun h => ?_) (fun h => ?_)
  · (repeat (first | refine gst (hk := ?_) | (with_reducible refine gc_drq ?_; intro _) | (show GO _ _ _ _ _ (⟨some _, none, _⟩ :: _) _; first | refine go_op (hk := ?_) | (refine go_nw (hk := ?_); intro u; try simp only [llc, lln, lna, lza]) | (refine go_np (hk := ?_); intro id)) | (show GQ _ _ _ _ _ _ _ (⟨some _, none, _⟩ :: _) _; first | refine gq_op (hk := ?_) | (refine gq_nw (hk := ?_); intro u; try simp only [llc, lln, lna, lza])) | (show GO _ _ _ _ _ (⟨none, none, _⟩ :: _) _; refine go_st (hk := ?_)) | (show GO _ _ _ _ _ (⟨_, some _, _⟩ :: _) _; first | refine go_in (hk := ?_) | refine go_out (hk := ?_) | refine go_void (hk := ?_)) | (show GQ _ _ _ _ _ _ _ (⟨_, some _, _⟩ :: _) _; first | refine gq_in (hk := ?_) | refine gq_out (hk := ?_) | refine gq_void (hk := ?_)) | (show GK _ _ _ _ (blockK _ _ _); refine gk_past rfl ?_) | (show GC _ _ _ _ _ (.cond _ _ _) _; first | refine gc_yes (h1 := ?_) | refine gc_no (h1 := ?_))))
    refine gc_cond rfl (fun h1 => ?_) (fun h1 => ?_)
    · (repeat (first | refine gst (hk := ?_) | (with_reducible refine gc_drq ?_; intro _) | (show GO _ _ _ _ _ (⟨some _, none, _⟩ :: _) _; first | refine go_op (hk := ?_) | (refine go_nw (hk := ?_); intro u; try simp only [llc, lln, lna, lza]) | (refine go_np (hk := ?_); intro id)) | (show GQ _ _ _ _ _ _ _ (⟨some _, none, _⟩ :: _) _; first | refine gq_op (hk := ?_) | (refine gq_nw (hk := ?_); intro u; try simp only [llc, lln, lna, lza])) | (show GO _ _ _ _ _ (⟨none, none, _⟩ :: _) _; refine go_st (hk := ?_)) | (show GO _ _ _ _ _ (⟨_, some _, _⟩ :: _) _; first | refine go_in (hk := ?_) | refine go_out (hk := ?_) | refine go_void (hk := ?_)) | (show GQ _ _ _ _ _ _ _ (⟨_, some _, _⟩ :: _) _; first | refine gq_in (hk := ?_) | refine gq_out (hk := ?_) | refine gq_void (hk := ?_)) | (show GK _ _ _ _ (blockK _ _ _); refine gk_past rfl ?_) | (show GC _ _ _ _ _ (.cond _ _ _) _; first | refine gc_yes (h1 := ?_) | refine gc_no (h1 := ?_))))
      exact gk_ret rfl fun H' hH => ⟨by
        have : Wide xs := ⟨i + 1, by omega, by omega, h1⟩
        simp [tupleOf, this], hH.leE⟩
    (repeat (first | refine gst (hk := ?_) | (with_reducible refine gc_drq ?_; intro _) | (show GO _ _ _ _ _ (⟨some _, none, _⟩ :: _) _; first | refine go_op (hk := ?_) | (refine go_nw (hk := ?_); intro u; try simp only [llc, lln, lna, lza]) | (refine go_np (hk := ?_); intro id)) | (show GQ _ _ _ _ _ _ _ (⟨some _, none, _⟩ :: _) _; first | refine gq_op (hk := ?_) | (refine gq_nw (hk := ?_); intro u; try simp only [llc, lln, lna, lza])) | (show GO _ _ _ _ _ (⟨none, none, _⟩ :: _) _; refine go_st (hk := ?_)) | (show GO _ _ _ _ _ (⟨_, some _, _⟩ :: _) _; first | refine go_in (hk := ?_) | refine go_out (hk := ?_) | refine go_void (hk := ?_)) | (show GQ _ _ _ _ _ _ _ (⟨_, some _, _⟩ :: _) _; first | refine gq_in (hk := ?_) | refine gq_out (hk := ?_) | refine gq_void (hk := ?_)) | (show GK _ _ _ _ (blockK _ _ _); refine gk_past rfl ?_) | (show GC _ _ _ _ _ (.cond _ _ _) _; first | refine gc_yes (h1 := ?_) | refine gc_no (h1 := ?_))))
    refine gk_next (hk (i + 1) ⟨by omega, fun k h2 h3 => ?_⟩ (by omega))
    rcases Nat.lt_or_ge k (i + 1) with h4 | h4
    · exact hp k h2 h4
    · rw [show k = i + 1 by omega]; exact Decidable.not_not.1 h1
  · (repeat (first | refine gst (hk := ?_) | (with_reducible refine gc_drq ?_; intro _) | (show GO _ _ _ _ _ (⟨some _, none, _⟩ :: _) _; first | refine go_op (hk := ?_) | (refine go_nw (hk := ?_); intro u; try simp only [llc, lln, lna, lza]) | (refine go_np (hk := ?_); intro id)) | (show GQ _ _ _ _ _ _ _ (⟨some _, none, _⟩ :: _) _; first | refine gq_op (hk := ?_) | (refine gq_nw (hk := ?_); intro u; try simp only [llc, lln, lna, lza])) | (show GO _ _ _ _ _ (⟨none, none, _⟩ :: _) _; refine go_st (hk := ?_)) | (show GO _ _ _ _ _ (⟨_, some _, _⟩ :: _) _; first | refine go_in (hk := ?_) | refine go_out (hk := ?_) | refine go_void (hk := ?_)) | (show GQ _ _ _ _ _ _ _ (⟨_, some _, _⟩ :: _) _; first | refine gq_in (hk := ?_) | refine gq_out (hk := ?_) | refine gq_void (hk := ?_)) | (show GK _ _ _ _ (blockK _ _ _); refine gk_past rfl ?_) | (show GC _ _ _ _ _ (.cond _ _ _) _; first | refine gc_yes (h1 := ?_) | refine gc_no (h1 := ?_))))
    exact gk_ret rfl fun H' hH => ⟨by
      have : ¬ Wide xs := fun ⟨k, h1, h2, h3⟩ => h3 (hp k h1 (by omega))
      simp [tupleOf, this], hH.leE⟩

theorem specCloud_ok {H : Heap} {a b : AV} {xs ys : List Int} (ha : Ints H a xs) (hb : Ints H b ys) (hl : xs.length ≤ 1000000000) (hl' : ys.length ≤ 1000000000) :
    ACalls Try.prog fn_spec_validCloud [a, b] H fun r H' => r = .bool (decide (Cloud xs ys)) ∧ H' = H := by
  refine ACalls.val ?_ rfl
  refine code_spec_validCloud.go [.roI a xs.length xs, .roI b ys.length ys] ⟨⟨rfl, ha⟩, ⟨rfl, hb⟩, trivial⟩ (by simp) ?_
  unfold mc_spec_validCloud
  (repeat (first | refine gst (hk := ?_) | (show GO _ _ _ _ _ (⟨some _, none, _⟩ :: _) _; first | refine go_op (hk := ?_) | (refine go_nw (hk := ?_); intro u; try simp only [llc, lln, lna, lza]) | (refine go_np (hk := ?_); intro id)) | (show GO _ _ _ _ _ (⟨none, none, _⟩ :: _) _; refine go_st (hk := ?_)) | (show GO _ _ _ _ _ (⟨_, some _, _⟩ :: _) _; first | refine go_in (hk := ?_) | refine go_out (hk := ?_) | refine go_void (hk := ?_)) | (show GK _ _ _ _ (blockK _ _ _); refine gk_past rfl ?_) | (show GC _ _ _ _ _ (.cond _ _ _) _; first | refine gc_yes (h1 := ?_) | refine gc_no (h1 := ?_))))
  refine go_callp rfl code_spec_validPoints.callable (fun H hH => specValidPoints_ok (hH.ints (by exact Has.auto)) (hH.ints (by exact Has.auto)) hl hl') ?_
  (repeat (first | refine gst (hk := ?_) | (show GO _ _ _ _ _ (⟨some _, none, _⟩ :: _) _; first | refine go_op (hk := ?_) | (refine go_nw (hk := ?_); intro u; try simp only [llc, lln, lna, lza]) | (refine go_np (hk := ?_); intro id)) | (show GO _ _ _ _ _ (⟨none, none, _⟩ :: _) _; refine go_st (hk := ?_)) | (show GO _ _ _ _ _ (⟨_, some _, _⟩ :: _) _; first | refine go_in (hk := ?_) | refine go_out (hk := ?_) | refine go_void (hk := ?_)) | (show GK _ _ _ _ (blockK _ _ _); refine gk_past rfl ?_) | (show GC _ _ _ _ _ (.cond _ _ _) _; first | refine gc_yes (h1 := ?_) | refine gc_no (h1 := ?_))))
  refine go_split 8 rfl (fun h1 => ?_) (fun h1 => ?_)
  · (repeat (first | refine gst (hk := ?_) | (show GO _ _ _ _ _ (⟨some _, none, _⟩ :: _) _; first | refine go_op (hk := ?_) | (refine go_nw (hk := ?_); intro u; try simp only [llc, lln, lna, lza]) | (refine go_np (hk := ?_); intro id)) | (show GO _ _ _ _ _ (⟨none, none, _⟩ :: _) _; refine go_st (hk := ?_)) | (show GO _ _ _ _ _ (⟨_, some _, _⟩ :: _) _; first | refine go_in (hk := ?_) | refine go_out (hk := ?_) | refine go_void (hk := ?_)) | (show GK _ _ _ _ (blockK _ _ _); refine gk_past rfl ?_) | (show GC _ _ _ _ _ (.cond _ _ _) _; first | refine gc_yes (h1 := ?_) | refine gc_no (h1 := ?_))))
    refine go_callp rfl code_spec_wide.callable (fun H hH => specWide_ok (hH.ints (by exact Has.auto)) hl) ?_
    (repeat (first | refine gst (hk := ?_) | (show GO _ _ _ _ _ (⟨some _, none, _⟩ :: _) _; first | refine go_op (hk := ?_) | (refine go_nw (hk := ?_); intro u; try simp only [llc, lln, lna, lza]) | (refine go_np (hk := ?_); intro id)) | (show GO _ _ _ _ _ (⟨none, none, _⟩ :: _) _; refine go_st (hk := ?_)) | (show GO _ _ _ _ _ (⟨_, some _, _⟩ :: _) _; first | refine go_in (hk := ?_) | refine go_out (hk := ?_) | refine go_void (hk := ?_)) | (show GK _ _ _ _ (blockK _ _ _); refine gk_past rfl ?_) | (show GC _ _ _ _ _ (.cond _ _ _) _; first | refine gc_yes (h1 := ?_) | refine gc_no (h1 := ?_))))
    exact gk_ret rfl fun H' hH => ⟨by
      simp only [tupleOf]; congr 1
      exact decide_eq_decide.2 ⟨fun h2 => ⟨h1, h2⟩, fun h2 => h2.2⟩, hH.leE⟩
  · (repeat (first | refine gst (hk := ?_) | (show GO _ _ _ _ _ (⟨some _, none, _⟩ :: _) _; first | refine go_op (hk := ?_) | (refine go_nw (hk := ?_); intro u; try simp only [llc, lln, lna, lza]) | (refine go_np (hk := ?_); intro id)) | (show GO _ _ _ _ _ (⟨none, none, _⟩ :: _) _; refine go_st (hk := ?_)) | (show GO _ _ _ _ _ (⟨_, some _, _⟩ :: _) _; first | refine go_in (hk := ?_) | refine go_out (hk := ?_) | refine go_void (hk := ?_)) | (show GK _ _ _ _ (blockK _ _ _); refine gk_past rfl ?_) | (show GC _ _ _ _ _ (.cond _ _ _) _; first | refine gc_yes (h1 := ?_) | refine gc_no (h1 := ?_))))
    exact gk_ret rfl fun H' hH => ⟨by
      simp only [tupleOf]; congr 1
      exact (decide_eq_false fun h2 => h1 h2.1).symm, hH.leE⟩

def dotT (xs ys : List Int) : Nat → Int
  | 0 => 0
  | i + 1 => dotT xs ys i + nth xs i * nth ys i

def devT (xs : List Int) (c : Int) : Nat → Int
  | 0 => 0
  | i + 1 => devT xs c i + (nth xs i - c) * (nth xs i - c)

theorem devT_eq (xs : List Int) (c : Int) : ∀ k, devT xs c k = dotT xs xs k - 2 * c * sumI xs k + k * (c * c)
  | 0 => by simp [devT, dotT, sumI]
  | k + 1 => by
    have := devT_eq xs c k
    simp only [devT, dotT, sumI, Int.natCast_add, Int.natCast_one]
    grind

theorem sq_nonneg (a : Int) : 0 ≤ a * a := by
  rcases Int.le_total 0 a with h | h
  · exact Int.mul_nonneg h h
  · have := Int.mul_nonneg (a := -a) (b := -a) (by omega) (by omega)
    rw [Int.neg_mul_neg] at this; exact this

theorem sq_pos {a : Int} (h : a ≠ 0) : 1 ≤ a * a := by
  rcases Int.lt_or_le 0 a with h1 | h1
  · have := Int.mul_pos h1 h1; omega
  · have := Int.mul_pos (a := -a) (b := -a) (by omega) (by omega)
    rw [Int.neg_mul_neg] at this; omega

theorem devT_nonneg (xs : List Int) (c : Int) : ∀ k, 0 ≤ devT xs c k
  | 0 => Int.le_refl _
  | k + 1 => by
    have h1 := devT_nonneg xs c k
    have h2 := sq_nonneg (nth xs k - c)
    rw [devT]; omega

theorem devT_ge {xs : List Int} {c : Int} {i : Nat} : ∀ {k}, i < k → (nth xs i - c) * (nth xs i - c) ≤ devT xs c k
  | 0, h => by omega
  | k + 1, h => by
    have h1 := devT_nonneg xs c k
    have h2 := sq_nonneg (nth xs k - c)
    rw [devT]
    rcases Nat.lt_or_ge i k with h3 | h3
    · have := devT_ge (xs := xs) (c := c) h3; omega
    · rw [show i = k by omega]; omega

def delT (xs : List Int) (k : Nat) : Int := k * dotT xs xs k - sumI xs k * sumI xs k

theorem delT_succ (xs : List Int) (k : Nat) : delT xs (k + 1) = delT xs k + devT xs (nth xs k) k := by
  rw [devT_eq]
  simp only [delT, dotT, sumI, Int.natCast_add, Int.natCast_one]
  grind

theorem delT_nonneg (xs : List Int) : ∀ k, 0 ≤ delT xs k
  | 0 => by simp [delT, sumI]
  | k + 1 => by
    have h1 := delT_nonneg xs k
    have h2 := devT_nonneg xs (nth xs k) k
    rw [delT_succ]; omega

theorem delT_pos {xs : List Int} : ∀ {k i}, i < k → nth xs i ≠ nth xs 0 → 1 ≤ delT xs k
  | 0, i, h, _ => by omega
  | k + 1, i, h, hn => by
    have h1 := delT_nonneg xs k
    have h2 := devT_nonneg xs (nth xs k) k
    rw [delT_succ]
    rcases Nat.lt_or_ge i k with h3 | h3
    · have := delT_pos h3 hn; omega
    · have hi : i = k := by omega
      subst hi
      have h0 : 0 < i := by
        rcases Nat.eq_zero_or_pos i with h4 | h4
        · subst h4; exact absurd rfl hn
        · exact h4
      have h4 := devT_ge (xs := xs) (c := nth xs i) h0
      have h5 := sq_pos (a := nth xs 0 - nth xs i) (by omega)
      omega

theorem dotT_le {xs ys : List Int} {n : Nat} (h : PtsT xs ys n) : ∀ {k}, k ≤ n → -(144 * (k : Int)) ≤ dotT xs ys k ∧ dotT xs ys k ≤ 144 * (k : Int)
  | 0, _ => by simp [dotT]
  | k + 1, hk => by
    have h1 := dotT_le h (k := k) (by omega)
    obtain ⟨_, h2, h3⟩ := h k (by omega)
    have h4 := absmul h2.1 h2.2 h3.1 h3.2
    rw [dotT]; omega

theorem PtsT.xx {xs ys : List Int} {n : Nat} (h : PtsT xs ys n) (hx : n ≤ xs.length) : PtsT xs xs n := fun i hi => ⟨by omega, (h i hi).2.1, (h i hi).2.1⟩

/-- the line of least squares -/
def sqA (xs ys : List Int) : Rat := (((xs.length : Int) * dotT xs ys xs.length - sumL xs * sumL ys : Int) : Rat) / ((delT xs xs.length : Int) : Rat)

def sqB (xs ys : List Int) : Rat := ((sumL ys : Int) : Rat) / (((xs.length : Int)) : Rat) - sqA xs ys * (((sumL xs : Int) : Rat) / (((xs.length : Int)) : Rat))

structure SqF (xs ys : List Int) : Prop where
  n : 2 ≤ xs.length ∧ xs.length ≤ 7
  sx : -84 ≤ sumL xs ∧ sumL xs ≤ 84
  sy : -84 ≤ sumL ys ∧ sumL ys ≤ 84
  del : 1 ≤ delT xs xs.length ∧ delT xs xs.length ≤ 14112
  up : -14112 ≤ (xs.length : Int) * dotT xs ys xs.length - sumL xs * sumL ys ∧ (xs.length : Int) * dotT xs ys xs.length - sumL xs * sumL ys ≤ 14112
  p1 : -7056 ≤ (xs.length : Int) * dotT xs ys xs.length ∧ (xs.length : Int) * dotT xs ys xs.length ≤ 7056
  p2 : -7056 ≤ (xs.length : Int) * dotT xs xs xs.length ∧ (xs.length : Int) * dotT xs xs xs.length ≤ 7056
  p3 : -7056 ≤ sumL xs * sumL ys ∧ sumL xs * sumL ys ≤ 7056
  p4 : -7056 ≤ sumL xs * sumL xs ∧ sumL xs * sumL xs ≤ 7056
  e : delT xs xs.length = (xs.length : Int) * dotT xs xs xs.length - sumL xs * sumL xs
  line : LineOk (sqA xs ys) (sqB xs ys) (delT xs xs.length * (xs.length : Int)) 98784 2376108

theorem Pts.bd {xs ys : List Int} (h : Pts xs ys) : Bd 12 xs ∧ Bd 12 ys := by
  refine ⟨fun x hx => ?_, fun y hy => ?_⟩
  · obtain ⟨i, hi, rfl⟩ := List.mem_iff_getElem.1 hx
    have := (h.1 i hi).2.1
    rwa [nth_of hi] at this
  · obtain ⟨i, hi, rfl⟩ := List.mem_iff_getElem.1 hy
    have := (h.1 i (by have := h.2.1; omega)).2.2
    rwa [nth_of hi] at this

theorem Cloud.sq {xs ys : List Int} (h : Cloud xs ys) : SqF xs ys := by
  obtain ⟨hp, i, hi1, hi2, hi3⟩ := h
  obtain ⟨b1, b2⟩ := hp.bd
  have hlen := hp.2.1
  have h7 := hp.2.2
  have sx := sumL_le b1 (by omega)
  have sy := sumL_le b2 (by omega)
  have hd := delT_pos hi2 hi3
  have d1 := dotT_le hp.1 (Nat.le_refl _)
  have d2 := dotT_le (hp.1.xx (Nat.le_refl _)) (Nat.le_refl _)
  have m1 := absmul (k := (xs.length : Int)) (l := dotT xs ys xs.length) (A := 7) (B := 1008) (by omega) (by omega) (by omega) (by omega)
  have m2 := absmul (k := (xs.length : Int)) (l := dotT xs xs xs.length) (A := 7) (B := 1008) (by omega) (by omega) (by omega) (by omega)
  have m3 := absmul (k := sumL xs) (l := sumL ys) (A := 84) (B := 84) (by omega) (by omega) (by omega) (by omega)
  have m4 := absmul (k := sumL xs) (l := sumL xs) (A := 84) (B := 84) (by omega) (by omega) (by omega) (by omega)
  have e : delT xs xs.length = (xs.length : Int) * dotT xs xs xs.length - sumL xs * sumL xs := by rw [delT, sumI_all]
  have hup : -14112 ≤ (xs.length : Int) * dotT xs ys xs.length - sumL xs * sumL ys ∧ (xs.length : Int) * dotT xs ys xs.length - sumL xs * sumL ys ≤ 14112 := by omega
  have hdel : 1 ≤ delT xs xs.length ∧ delT xs xs.length ≤ 14112 := by omega
  have m5 := mulbd (a := delT xs xs.length) (b := (xs.length : Int)) (A := 14112) (B := 7) (by omega) (by omega) (by omega) (by omega)
  have f1 : FD (sqA xs ys) (delT xs xs.length) 14112 := FD.div (by omega) hup
  have f2 : FD (((sumL ys : Int) : Rat) / (((xs.length : Int)) : Rat)) (xs.length : Int) 84 := FD.div (by omega) (by omega)
  have f3 : FD (((sumL xs : Int) : Rat) / (((xs.length : Int)) : Rat)) (xs.length : Int) 84 := FD.div (by omega) (by omega)
  refine ⟨by omega, by omega, by omega, hdel, hup, by omega, by omega, by omega, by omega, e, ⟨(f1.lift (m := (xs.length : Int)) (by omega)).mono (by omega), ?_, by omega, by omega, by omega⟩⟩
  have f4 := ((f2.lift (m := delT xs xs.length) (by omega)).to (Int.mul_comm _ _)).sub (f1.mul f3)
  exact f4.mono (by omega)

abbrev fr0 : AV := .agg [.int .i64 0, .int .i64 0]

theorem SqF.fits {xs ys : List Int} (h : SqF xs ys) : FitM (sqA xs ys) (((sumL xs : Int) : Rat) / (((xs.length : Int)) : Rat)) ∧ FitA (((sumL ys : Int) : Rat) / (((xs.length : Int)) : Rat)) (sqA xs ys * (((sumL xs : Int) : Rat) / (((xs.length : Int)) : Rat))) := by
  obtain ⟨hn, hsx, hsy, hdel, hup, _, _, _, _, _, _⟩ := h
  have f1 : FD (sqA xs ys) (delT xs xs.length) 14112 := FD.div (by omega) hup
  have f2 : FD (((sumL ys : Int) : Rat) / (((xs.length : Int)) : Rat)) (xs.length : Int) 84 := FD.div (by omega) (by omega)
  have f3 : FD (((sumL xs : Int) : Rat) / (((xs.length : Int)) : Rat)) (xs.length : Int) 84 := FD.div (by omega) (by omega)
  have m5 := mulbd (a := delT xs xs.length) (b := (xs.length : Int)) (A := 14112) (B := 7) (by omega) (by omega) (by omega) (by omega)
  have m8 := Int.mul_nonneg (a := delT xs xs.length) (b := (xs.length : Int)) (by omega) (by omega)
  have m6 := mulbd (a := (xs.length : Int)) (b := delT xs xs.length * (xs.length : Int)) (A := 7) (B := 98784) (by omega) (by omega) (by omega) (by omega)
  have m7 := mulbd (a := (xs.length : Int)) (b := delT xs xs.length) (A := 7) (B := 14112) (by omega) (by omega) (by omega) (by omega)
  exact ⟨fitM_of f1 f3 (by omega) (by omega), fitA_of f2 (f1.mul f3) (by omega) (by omega) (by omega)⟩

abbrev cel0 (i : Nat) : Ch := ⟨.cell, .ptr i 0, 2, 1, [.int .i64 0, .int .i64 0]⟩

abbrev celF (i : Nat) (q : Rat) : Ch := ⟨.cell, .ptr i 0, 2, 1, [.int .i64 q.num, .int .i64 (q.den : Int)]⟩

theorem lawDivisor_ok {H : Heap} {a b : Int} (ha : -4611686018427387904 ≤ a ∧ a ≤ 4611686018427387904) (hb : -4611686018427387904 ≤ b ∧ b ≤ 4611686018427387904) :
    ACalls Try.prog fn_laws_divisor [.int .i64 a, .int .i64 b] H fun r H' => r = .int .i64 (Int.gcd a b : Nat) ∧ H' = H := by
  refine ACalls.val ?_ rfl
  refine code_laws_divisor.go [] trivial (by simp) ?_
  unfold mc_laws_divisor
  (repeat (first | refine gst (hk := ?_) | (show GO _ _ _ _ _ (⟨some _, none, _⟩ :: _) _; first | refine go_op (hk := ?_) | (refine go_nw (hk := ?_); intro u; try simp only [llc, lln, lna, lza]) | (refine go_np (hk := ?_); intro id)) | (show GO _ _ _ _ _ (⟨none, none, _⟩ :: _) _; refine go_st (hk := ?_)) | (show GO _ _ _ _ _ (⟨_, some _, _⟩ :: _) _; first | refine go_in (hk := ?_) | refine go_out (hk := ?_) | refine go_void (hk := ?_)) | (show GK _ _ _ _ (blockK _ _ _); refine gk_past rfl ?_) | (show GC _ _ _ _ _ (.cond _ _ _) _; first | refine gc_yes (h1 := ?_) | refine gc_no (h1 := ?_))))
  refine gc_loop (γ := Int × Int) (fun t => [(0, .int .i64 t.1), (1, .int .i64 t.2)]) (fun _ => []) (fun t => Int.gcd t.1 t.2 = Int.gcd a b ∧ (-4611686018427387904 ≤ t.1 ∧ t.1 ≤ 4611686018427387904) ∧ (-4611686018427387904 ≤ t.2 ∧ t.2 ≤ 4611686018427387904)) (fun t => t.2.natAbs) (a, b) ⟨rfl, ha, hb⟩ (hb := ?_)
  rintro ⟨x, y⟩ ⟨h1, h2, h3⟩ I ν m hk
  simp only at h1 h2 h3 hk ⊢
  (repeat (first | refine gst (hk := ?_) | (show GO _ _ _ _ _ (⟨some _, none, _⟩ :: _) _; first | refine go_op (hk := ?_) | (refine go_nw (hk := ?_); intro u; try simp only [llc, lln, lna, lza]) | (refine go_np (hk := ?_); intro id)) | (show GO _ _ _ _ _ (⟨none, none, _⟩ :: _) _; refine go_st (hk := ?_)) | (show GO _ _ _ _ _ (⟨_, some _, _⟩ :: _) _; first | refine go_in (hk := ?_) | refine go_out (hk := ?_) | refine go_void (hk := ?_)) | (show GK _ _ _ _ (blockK _ _ _); refine gk_past rfl ?_) | (show GC _ _ _ _ _ (.cond _ _ _) _; first | refine gc_yes (h1 := ?_) | refine gc_no (h1 := ?_))))
  refine gc_cond rfl (fun h => ?_) (fun h => ?_)
  · have h4 : (x.tmod y).natAbs < y.natAbs := by
      rw [Int.natAbs_tmod]; exact Nat.mod_lt _ (by omega)
    (repeat (first | refine gst (hk := ?_) | (show GO _ _ _ _ _ (⟨some _, none, _⟩ :: _) _; first | refine go_op (hk := ?_) | (refine go_nw (hk := ?_); intro u; try simp only [llc, lln, lna, lza]) | (refine go_np (hk := ?_); intro id)) | (show GO _ _ _ _ _ (⟨none, none, _⟩ :: _) _; refine go_st (hk := ?_)) | (show GO _ _ _ _ _ (⟨_, some _, _⟩ :: _) _; first | refine go_in (hk := ?_) | refine go_out (hk := ?_) | refine go_void (hk := ?_)) | (show GK _ _ _ _ (blockK _ _ _); refine gk_past rfl ?_) | (show GC _ _ _ _ _ (.cond _ _ _) _; first | refine gc_yes (h1 := ?_) | refine gc_no (h1 := ?_))))
    refine go_is rfl (stp_rem rfl rfl h) ?_
    (repeat (first | refine gst (hk := ?_) | (show GO _ _ _ _ _ (⟨some _, none, _⟩ :: _) _; first | refine go_op (hk := ?_) | (refine go_nw (hk := ?_); intro u; try simp only [llc, lln, lna, lza]) | (refine go_np (hk := ?_); intro id)) | (show GO _ _ _ _ _ (⟨none, none, _⟩ :: _) _; refine go_st (hk := ?_)) | (show GO _ _ _ _ _ (⟨_, some _, _⟩ :: _) _; first | refine go_in (hk := ?_) | refine go_out (hk := ?_) | refine go_void (hk := ?_)) | (show GK _ _ _ _ (blockK _ _ _); refine gk_past rfl ?_) | (show GC _ _ _ _ _ (.cond _ _ _) _; first | refine gc_yes (h1 := ?_) | refine gc_no (h1 := ?_))))
    exact gk_next (hk (y, x.tmod y) ⟨by rw [tmod_gcd]; exact h1, h3, by simp only; omega⟩ h4)
  · have hy : y = 0 := by omega
    subst hy
    have e : (Int.gcd a b : Nat) = x.natAbs := by rw [← h1]; simp [Int.gcd]
    (repeat (first | refine gst (hk := ?_) | (show GO _ _ _ _ _ (⟨some _, none, _⟩ :: _) _; first | refine go_op (hk := ?_) | (refine go_nw (hk := ?_); intro u; try simp only [llc, lln, lna, lza]) | (refine go_np (hk := ?_); intro id)) | (show GO _ _ _ _ _ (⟨none, none, _⟩ :: _) _; refine go_st (hk := ?_)) | (show GO _ _ _ _ _ (⟨_, some _, _⟩ :: _) _; first | refine go_in (hk := ?_) | refine go_out (hk := ?_) | refine go_void (hk := ?_)) | (show GK _ _ _ _ (blockK _ _ _); refine gk_past rfl ?_) | (show GC _ _ _ _ _ (.cond _ _ _) _; first | refine gc_yes (h1 := ?_) | refine gc_no (h1 := ?_))))
    exact gk_ret rfl fun H' hH => ⟨by rw [e]; show AV.int _ (max x (-x)) = _; congr 1; omega, hH.leE⟩

theorem lawFrac_ok {H : Heap} {a b : Int} (ha : -4611686018427387904 ≤ a ∧ a ≤ 4611686018427387904) (hb : -4611686018427387904 ≤ b ∧ b ≤ 4611686018427387904) (h0 : b ≠ 0) :
    ACalls Try.prog fn_laws_fracOf [.int .i64 a, .int .i64 b] H fun r H' => r = frV ((a : Rat) / (b : Rat)) ∧ H' = H := by
  refine ACalls.val ?_ rfl
  have hg : (0 : Int) < (Int.gcd a b : Nat) := by
    have := Int.gcd_pos_of_ne_zero_right a h0
    omega
  obtain ⟨e1, e2⟩ := div_num (a := a) h0
  refine code_laws_fracOf.go [] trivial (by simp) ?_
  unfold mc_laws_fracOf
  (repeat (first | refine gst (hk := ?_) | (with_reducible first | (refine gc_drw (h := ?_); intro _) | (refine gc_drw2 (h := ?_); intro _)) | (show GO _ _ _ _ _ (⟨some _, none, _⟩ :: _) _; first | refine go_op (hk := ?_) | (refine go_nw (hk := ?_); intro u; try simp only [llc, lln, lna, lza]) | (refine go_np (hk := ?_); intro id)) | (show GD _ _ _ _ _ _ _ (⟨some _, none, _⟩ :: _) _; first | refine gd_op (hk := ?_) | (refine gd_nw (hk := ?_); intro u; try simp only [llc, lln, lna, lza])) | (show GD2 _ _ _ _ _ _ _ _ _ _ _ _ _ _; first | refine gd2_nil rfl ?_ | refine gd2_op (hk := ?_) | (refine gd2_nw (hk := ?_); intro u; try simp only [llc, lln, lna, lza]) | refine gd2_l (hk := ?_) | refine gd2_lp (hk := ?_) | (refine gd2_newp (hk := ?_); intro id) | refine gd2_st (hk := ?_) | (refine gd2_bsl rfl rfl ?_; intro u; try simp only [llc, lln, lna, lza]) | (refine gd2_a (hk := ?_); intro u; try simp only [llc, lln, lna, lza])) | (show GO _ _ _ _ _ (⟨none, none, _⟩ :: _) _; refine go_st (hk := ?_)) | (show GD _ _ _ _ _ _ _ (⟨none, none, _⟩ :: _) _; refine gd_st (hk := ?_)) | (show GO _ _ _ _ _ (⟨_, some _, _⟩ :: _) _; first | refine go_in (hk := ?_) | refine go_out (hk := ?_) | refine go_void (hk := ?_)) | (show GK _ _ _ _ (blockK _ _ _); refine gk_past rfl ?_) | (show GC _ _ _ _ _ (.cond _ _ _) _; first | refine gc_yes (h1 := ?_) | refine gc_no (h1 := ?_))))
  refine gc_cond rfl (fun h => ?_) (fun h => ?_)
  · have eg : Int.gcd (-a) (-b) = Int.gcd a b := by rw [Int.gcd_neg, Int.neg_gcd]
    have d1 := tdiv_in (a := -a) (g := (Int.gcd a b : Nat)) (B := 4611686018427387904) (by omega)
    have d2 := tdiv_in (a := -b) (g := (Int.gcd a b : Nat)) (B := 4611686018427387904) (by omega)
    rw [show b.sign = -1 from Int.sign_eq_neg_one_of_neg h] at e1
    rw [show max b (-b) = -b by omega] at e2
    rw [show (-1 : Int) * a = -a by omega] at e1
    (repeat (first | refine gst (hk := ?_) | (with_reducible first | (refine gc_drw (h := ?_); intro _) | (refine gc_drw2 (h := ?_); intro _)) | (show GO _ _ _ _ _ (⟨some _, none, _⟩ :: _) _; first | refine go_op (hk := ?_) | (refine go_nw (hk := ?_); intro u; try simp only [llc, lln, lna, lza]) | (refine go_np (hk := ?_); intro id)) | (show GD _ _ _ _ _ _ _ (⟨some _, none, _⟩ :: _) _; first | refine gd_op (hk := ?_) | (refine gd_nw (hk := ?_); intro u; try simp only [llc, lln, lna, lza])) | (show GD2 _ _ _ _ _ _ _ _ _ _ _ _ _ _; first | refine gd2_nil rfl ?_ | refine gd2_op (hk := ?_) | (refine gd2_nw (hk := ?_); intro u; try simp only [llc, lln, lna, lza]) | refine gd2_l (hk := ?_) | refine gd2_lp (hk := ?_) | (refine gd2_newp (hk := ?_); intro id) | refine gd2_st (hk := ?_) | (refine gd2_bsl rfl rfl ?_; intro u; try simp only [llc, lln, lna, lza]) | (refine gd2_a (hk := ?_); intro u; try simp only [llc, lln, lna, lza])) | (show GO _ _ _ _ _ (⟨none, none, _⟩ :: _) _; refine go_st (hk := ?_)) | (show GD _ _ _ _ _ _ _ (⟨none, none, _⟩ :: _) _; refine gd_st (hk := ?_)) | (show GO _ _ _ _ _ (⟨_, some _, _⟩ :: _) _; first | refine go_in (hk := ?_) | refine go_out (hk := ?_) | refine go_void (hk := ?_)) | (show GK _ _ _ _ (blockK _ _ _); refine gk_past rfl ?_) | (show GC _ _ _ _ _ (.cond _ _ _) _; first | refine gc_yes (h1 := ?_) | refine gc_no (h1 := ?_))))
    refine go_callp rfl code_laws_divisor.callable (fun H hH => lawDivisor_ok (by omega) (by omega)) ?_
    rw [eg]
    (repeat (first | refine gst (hk := ?_) | (with_reducible first | (refine gc_drw (h := ?_); intro _) | (refine gc_drw2 (h := ?_); intro _)) | (show GO _ _ _ _ _ (⟨some _, none, _⟩ :: _) _; first | refine go_op (hk := ?_) | (refine go_nw (hk := ?_); intro u; try simp only [llc, lln, lna, lza]) | (refine go_np (hk := ?_); intro id)) | (show GD _ _ _ _ _ _ _ (⟨some _, none, _⟩ :: _) _; first | refine gd_op (hk := ?_) | (refine gd_nw (hk := ?_); intro u; try simp only [llc, lln, lna, lza])) | (show GD2 _ _ _ _ _ _ _ _ _ _ _ _ _ _; first | refine gd2_nil rfl ?_ | refine gd2_op (hk := ?_) | (refine gd2_nw (hk := ?_); intro u; try simp only [llc, lln, lna, lza]) | refine gd2_l (hk := ?_) | refine gd2_lp (hk := ?_) | (refine gd2_newp (hk := ?_); intro id) | refine gd2_st (hk := ?_) | (refine gd2_bsl rfl rfl ?_; intro u; try simp only [llc, lln, lna, lza]) | (refine gd2_a (hk := ?_); intro u; try simp only [llc, lln, lna, lza])) | (show GO _ _ _ _ _ (⟨none, none, _⟩ :: _) _; refine go_st (hk := ?_)) | (show GD _ _ _ _ _ _ _ (⟨none, none, _⟩ :: _) _; refine gd_st (hk := ?_)) | (show GO _ _ _ _ _ (⟨_, some _, _⟩ :: _) _; first | refine go_in (hk := ?_) | refine go_out (hk := ?_) | refine go_void (hk := ?_)) | (show GK _ _ _ _ (blockK _ _ _); refine gk_past rfl ?_) | (show GC _ _ _ _ _ (.cond _ _ _) _; first | refine gc_yes (h1 := ?_) | refine gc_no (h1 := ?_))))
    refine gd_is rfl (stp_quo (a := -a) (b := ((Int.gcd a b : Nat) : Int)) (by exact rfl) (by exact rfl) (by omega) (by omega)) ?_
    (repeat (first | refine gst (hk := ?_) | (with_reducible first | (refine gc_drw (h := ?_); intro _) | (refine gc_drw2 (h := ?_); intro _)) | (show GO _ _ _ _ _ (⟨some _, none, _⟩ :: _) _; first | refine go_op (hk := ?_) | (refine go_nw (hk := ?_); intro u; try simp only [llc, lln, lna, lza]) | (refine go_np (hk := ?_); intro id)) | (show GD _ _ _ _ _ _ _ (⟨some _, none, _⟩ :: _) _; first | refine gd_op (hk := ?_) | (refine gd_nw (hk := ?_); intro u; try simp only [llc, lln, lna, lza])) | (show GD2 _ _ _ _ _ _ _ _ _ _ _ _ _ _; first | refine gd2_nil rfl ?_ | refine gd2_op (hk := ?_) | (refine gd2_nw (hk := ?_); intro u; try simp only [llc, lln, lna, lza]) | refine gd2_l (hk := ?_) | refine gd2_lp (hk := ?_) | (refine gd2_newp (hk := ?_); intro id) | refine gd2_st (hk := ?_) | (refine gd2_bsl rfl rfl ?_; intro u; try simp only [llc, lln, lna, lza]) | (refine gd2_a (hk := ?_); intro u; try simp only [llc, lln, lna, lza])) | (show GO _ _ _ _ _ (⟨none, none, _⟩ :: _) _; refine go_st (hk := ?_)) | (show GD _ _ _ _ _ _ _ (⟨none, none, _⟩ :: _) _; refine gd_st (hk := ?_)) | (show GO _ _ _ _ _ (⟨_, some _, _⟩ :: _) _; first | refine go_in (hk := ?_) | refine go_out (hk := ?_) | refine go_void (hk := ?_)) | (show GK _ _ _ _ (blockK _ _ _); refine gk_past rfl ?_) | (show GC _ _ _ _ _ (.cond _ _ _) _; first | refine gc_yes (h1 := ?_) | refine gc_no (h1 := ?_))))
    exact gk_retc rfl (by exact Sel.auto) rfl rfl fun H' hH => ⟨by rw [frV, e1, e2]; rfl, hH.leE⟩
  · have d1 := tdiv_in (a := a) (g := (Int.gcd a b : Nat)) (B := 4611686018427387904) (by omega)
    have d2 := tdiv_in (a := b) (g := (Int.gcd a b : Nat)) (B := 4611686018427387904) (by omega)
    rw [show b.sign = 1 from Int.sign_eq_one_of_pos (by omega)] at e1
    rw [show max b (-b) = b by omega] at e2
    rw [show (1 : Int) * a = a by omega] at e1
    (repeat (first | refine gst (hk := ?_) | (with_reducible first | (refine gc_drw (h := ?_); intro _) | (refine gc_drw2 (h := ?_); intro _)) | (show GO _ _ _ _ _ (⟨some _, none, _⟩ :: _) _; first | refine go_op (hk := ?_) | (refine go_nw (hk := ?_); intro u; try simp only [llc, lln, lna, lza]) | (refine go_np (hk := ?_); intro id)) | (show GD _ _ _ _ _ _ _ (⟨some _, none, _⟩ :: _) _; first | refine gd_op (hk := ?_) | (refine gd_nw (hk := ?_); intro u; try simp only [llc, lln, lna, lza])) | (show GD2 _ _ _ _ _ _ _ _ _ _ _ _ _ _; first | refine gd2_nil rfl ?_ | refine gd2_op (hk := ?_) | (refine gd2_nw (hk := ?_); intro u; try simp only [llc, lln, lna, lza]) | refine gd2_l (hk := ?_) | refine gd2_lp (hk := ?_) | (refine gd2_newp (hk := ?_); intro id) | refine gd2_st (hk := ?_) | (refine gd2_bsl rfl rfl ?_; intro u; try simp only [llc, lln, lna, lza]) | (refine gd2_a (hk := ?_); intro u; try simp only [llc, lln, lna, lza])) | (show GO _ _ _ _ _ (⟨none, none, _⟩ :: _) _; refine go_st (hk := ?_)) | (show GD _ _ _ _ _ _ _ (⟨none, none, _⟩ :: _) _; refine gd_st (hk := ?_)) | (show GO _ _ _ _ _ (⟨_, some _, _⟩ :: _) _; first | refine go_in (hk := ?_) | refine go_out (hk := ?_) | refine go_void (hk := ?_)) | (show GK _ _ _ _ (blockK _ _ _); refine gk_past rfl ?_) | (show GC _ _ _ _ _ (.cond _ _ _) _; first | refine gc_yes (h1 := ?_) | refine gc_no (h1 := ?_))))
    refine go_callp rfl code_laws_divisor.callable (fun H hH => lawDivisor_ok (by omega) (by omega)) ?_
    (repeat (first | refine gst (hk := ?_) | (with_reducible first | (refine gc_drw (h := ?_); intro _) | (refine gc_drw2 (h := ?_); intro _)) | (show GO _ _ _ _ _ (⟨some _, none, _⟩ :: _) _; first | refine go_op (hk := ?_) | (refine go_nw (hk := ?_); intro u; try simp only [llc, lln, lna, lza]) | (refine go_np (hk := ?_); intro id)) | (show GD _ _ _ _ _ _ _ (⟨some _, none, _⟩ :: _) _; first | refine gd_op (hk := ?_) | (refine gd_nw (hk := ?_); intro u; try simp only [llc, lln, lna, lza])) | (show GD2 _ _ _ _ _ _ _ _ _ _ _ _ _ _; first | refine gd2_nil rfl ?_ | refine gd2_op (hk := ?_) | (refine gd2_nw (hk := ?_); intro u; try simp only [llc, lln, lna, lza]) | refine gd2_l (hk := ?_) | refine gd2_lp (hk := ?_) | (refine gd2_newp (hk := ?_); intro id) | refine gd2_st (hk := ?_) | (refine gd2_bsl rfl rfl ?_; intro u; try simp only [llc, lln, lna, lza]) | (refine gd2_a (hk := ?_); intro u; try simp only [llc, lln, lna, lza])) | (show GO _ _ _ _ _ (⟨none, none, _⟩ :: _) _; refine go_st (hk := ?_)) | (show GD _ _ _ _ _ _ _ (⟨none, none, _⟩ :: _) _; refine gd_st (hk := ?_)) | (show GO _ _ _ _ _ (⟨_, some _, _⟩ :: _) _; first | refine go_in (hk := ?_) | refine go_out (hk := ?_) | refine go_void (hk := ?_)) | (show GK _ _ _ _ (blockK _ _ _); refine gk_past rfl ?_) | (show GC _ _ _ _ _ (.cond _ _ _) _; first | refine gc_yes (h1 := ?_) | refine gc_no (h1 := ?_))))
    refine gd_is rfl (stp_quo (a := a) (b := ((Int.gcd a b : Nat) : Int)) (by exact rfl) (by exact rfl) (by omega) (by omega)) ?_
    (repeat (first | refine gst (hk := ?_) | (with_reducible first | (refine gc_drw (h := ?_); intro _) | (refine gc_drw2 (h := ?_); intro _)) | (show GO _ _ _ _ _ (⟨some _, none, _⟩ :: _) _; first | refine go_op (hk := ?_) | (refine go_nw (hk := ?_); intro u; try simp only [llc, lln, lna, lza]) | (refine go_np (hk := ?_); intro id)) | (show GD _ _ _ _ _ _ _ (⟨some _, none, _⟩ :: _) _; first | refine gd_op (hk := ?_) | (refine gd_nw (hk := ?_); intro u; try simp only [llc, lln, lna, lza])) | (show GD2 _ _ _ _ _ _ _ _ _ _ _ _ _ _; first | refine gd2_nil rfl ?_ | refine gd2_op (hk := ?_) | (refine gd2_nw (hk := ?_); intro u; try simp only [llc, lln, lna, lza]) | refine gd2_l (hk := ?_) | refine gd2_lp (hk := ?_) | (refine gd2_newp (hk := ?_); intro id) | refine gd2_st (hk := ?_) | (refine gd2_bsl rfl rfl ?_; intro u; try simp only [llc, lln, lna, lza]) | (refine gd2_a (hk := ?_); intro u; try simp only [llc, lln, lna, lza])) | (show GO _ _ _ _ _ (⟨none, none, _⟩ :: _) _; refine go_st (hk := ?_)) | (show GD _ _ _ _ _ _ _ (⟨none, none, _⟩ :: _) _; refine gd_st (hk := ?_)) | (show GO _ _ _ _ _ (⟨_, some _, _⟩ :: _) _; first | refine go_in (hk := ?_) | refine go_out (hk := ?_) | refine go_void (hk := ?_)) | (show GK _ _ _ _ (blockK _ _ _); refine gk_past rfl ?_) | (show GC _ _ _ _ _ (.cond _ _ _) _; first | refine gc_yes (h1 := ?_) | refine gc_no (h1 := ?_))))
    exact gk_retc rfl (by exact Sel.auto) rfl rfl fun H' hH => ⟨by rw [frV, e1, e2]; rfl, hH.leE⟩

theorem lawLess_ok {H : Heap} {p q : Rat} (hf : FitA p q) :
    ACalls Try.prog fn_laws_lessOf [frV p, frV q] H fun r H' => r = .bool (decide (p < q)) ∧ H' = H := by
  refine ACalls.val ?_ rfl
  obtain ⟨h1, h2, h3⟩ := hf
  unfold frV
  refine code_laws_lessOf.go [] trivial (by simp) ?_
  unfold mc_laws_lessOf
  (repeat (first | refine gst (hk := ?_) | (show GO _ _ _ _ _ (⟨some _, none, _⟩ :: _) _; first | refine go_op (hk := ?_) | (refine go_nw (hk := ?_); intro u; try simp only [llc, lln, lna, lza]) | (refine go_np (hk := ?_); intro id)) | (show GO _ _ _ _ _ (⟨none, none, _⟩ :: _) _; refine go_st (hk := ?_)) | (show GO _ _ _ _ _ (⟨_, some _, _⟩ :: _) _; first | refine go_in (hk := ?_) | refine go_out (hk := ?_) | refine go_void (hk := ?_)) | (show GK _ _ _ _ (blockK _ _ _); refine gk_past rfl ?_) | (show GC _ _ _ _ _ (.cond _ _ _) _; first | refine gc_yes (h1 := ?_) | refine gc_no (h1 := ?_))))
  exact gk_ret rfl fun H' hH => ⟨by simp only [tupleOf, Rat.lt_iff], hH.leE⟩

def frC (q : Rat) : List AV := [.int .i64 q.num, .int .i64 (q.den : Int)]

def frs : List Rat → List AV
  | [] => []
  | q :: L => frC q ++ frs L

theorem frs_len : ∀ L : List Rat, (frs L).length = L.length * 2
  | [] => rfl
  | q :: L => by rw [frs, List.length_append, frs_len L, List.length_cons]; simp [frC]; omega

theorem frs_app : ∀ L M : List Rat, frs (L ++ M) = frs L ++ frs M
  | [], M => rfl
  | q :: L, M => by rw [List.cons_append, frs, frs, frs_app L M, List.append_assoc]

theorem frs_one : ∀ L : List Rat, (frs L).all AV.one = true
  | [] => rfl
  | q :: L => by rw [frs, List.all_append, frs_one L]; rfl

theorem frs_take : ∀ (L : List Rat) (k : Nat), (frs L).take (k * 2) = frs (L.take k)
  | [], k => by simp [frs]
  | q :: L, 0 => by simp [frs]
  | q :: L, k + 1 => by
    rw [List.take_succ_cons, frs, frs, show (k + 1) * 2 = (frC q).length + k * 2 by simp [frC]; omega, List.take_length_add_append, frs_take L k]

theorem frs_drop : ∀ (L : List Rat) (k : Nat), (frs L).drop (k * 2) = frs (L.drop k)
  | [], k => by simp [frs]
  | q :: L, 0 => by simp
  | q :: L, k + 1 => by
    rw [List.drop_succ_cons, frs, show (k + 1) * 2 = (frC q).length + k * 2 by simp [frC]; omega, List.drop_length_add_append, frs_drop L k]

def nthR (L : List Rat) (i : Nat) : Rat := L.getD i 0

theorem nthR_of {L : List Rat} {i : Nat} (h : i < L.length) : nthR L i = L[i] := by
  unfold nthR
  rw [List.getD_eq_getElem?_getD, List.getElem?_eq_getElem h]; rfl

theorem frs_at {L : List Rat} {i : Nat} (h : i < L.length) : ((frs L).drop (i * 2)).take 2 = frC (nthR L i) := by
  have h1 := frs_take (L.drop i) 1
  rw [Nat.one_mul] at h1
  rw [frs_drop, h1, nthR_of h, List.drop_eq_getElem_cons h, List.take_succ_cons]
  simp [frs]

theorem stp_ldF {A : Heap} {X : List Nat} {E : List (Nat × AV)} {S : Sig} {p : MX} {v : AV} {n i : Nat} {L : List Rat} (hp : evE E p = some (v.elem i)) (hh : Has S v 2 n (frs L)) (hn : n = L.length) (hi : i < L.length) : Stp A X E S (.ld p 2 true) (Is (frV (nthR L i)) S) :=
  stp_ldn hp hh (by omega) (frs_at hi) rfl

theorem stp_bslF {A : Heap} {X : List Nat} {E : List (Nat × AV)} {S : Sig} {x : MX} {q : Rat} (hx : evE E x = some (frV q)) : Stp A X E S (.bsl 1 2 [.int .i64 0, .int .i64 0] [(0, x)]) (New fun v => ⟨.rw, v, 2, 1, frs [q]⟩ :: S) := by
  have h := stp_bsl1 (A := A) (X := X) (S := S) (es := 2) (z := [.int .i64 0, .int .i64 0]) (ds := frC q) hx rfl rfl rfl rfl
  rw [show frs [q] = frC q by simp [frs]]
  exact h

theorem stp_appF {A : Heap} {X : List Nat} {E : List (Nat × AV)} {S S0 : Sig} {v w : AV} {x y : MX} {n m' : Nat} {L M : List Rat} (hx : evE E x = some v) (hy : evE E y = some w) (hs : Sel S ⟨.rw, v, 2, n, frs L⟩ S0) (hh : Has S w 2 m' (frs M)) (hm2 : n + m' ≤ 1000000000000) :
    Stp A X E S (.app x y 2 16) (New fun u => ⟨.rw, u, 2, n + m', frs (L ++ M)⟩ :: S0) := by
  simp only [frs_app]
  exact stp_app hx hy hs hh (frs_one M) (by omega) (by omega) hm2

theorem gd2_bslg {P : Program} {Qt : FuncId → List AV → Option AV} {base k : Nat} {A : Heap} {X : List Nat} {E : List (Nat × AV)} {S : Sig} {L O : List AV} {acc : List Fp} {prs : List (Nat × Nat)} {K : St → Prop} {r : List MI} {d n es : Nat} {z : List AV} {parts : List (Nat × MX)} {N : AV → Sig} (hs : Stp A X E S (.bsl n es z parts) (New N))
    (hk : ∀ u, GD2 P Qt base (k + 1) A X ((d, u) :: E) (N u) (u :: L) O (acc ++ [(true, some (k, k + 1))]) prs r K) : GD2 P Qt base k A X E S L O acc prs (⟨some d, none, .bsl n es z parts⟩ :: r) K := by
  refine ⟨fun s m c hE hS hm hL hO hc hkl => ?_⟩
  obtain ⟨v', S'', H', m', rfl, h2, h3, h4, h5, h6⟩ := hs.stp s.τ s.H m (base + k) hE hS hm
  have hd0 : dstep P Qt (base + k) ⟨some d, none, (.bsl n es z parts)⟩ s = mstep (base + k) s.τ s.H (.bsl n es z parts) := dstep_plain2 rfl
  simp only [dops, hd0, h2]
  refine (hk v').g _ m' _ (look_cons hE d _) h3 (by omega) ?_ hO (hc.snoc ?_) (by simp [hkl])
  · intro u hu id hid
    rcases List.mem_cons.1 hu with rfl | hu
    · simp only [mstep] at h2
      split at h2
      · simp only [Option.some.injEq, Prod.mk.injEq] at h2
        rw [← h2.1] at hid
        simp only [AV.bid, Option.some.injEq] at hid; omega
      · cases h2
    · exact hL u hu id hid
  · refine ⟨by simp [foot], by simp [foot], by simp, ?_⟩
    intro lo hi h7 id hid
    simp only [Option.some.injEq, Prod.mk.injEq] at h7
    simp only [touch, List.mem_singleton] at hid
    omega

def PtR (xs : List Int) (i : Nat) : Rat := ((nth xs i : Int) : Rat)

def slR (xs ys : List Int) (i k : Nat) : Rat := ((nth ys i - nth ys k : Int) : Rat) / ((nth xs i - nth xs k : Int) : Rat)

def slI (xs ys : List Int) (i : Nat) : Nat → List Rat
  | 0 => []
  | k + 1 => if nth xs i ≠ nth xs k then slI xs ys i k ++ [slR xs ys i k] else slI xs ys i k

def slS (xs ys : List Int) : Nat → List Rat
  | 0 => []
  | i + 1 => slS xs ys i ++ slI xs ys i i

theorem slI_len (xs ys : List Int) (i : Nat) : ∀ k, (slI xs ys i k).length ≤ k
  | 0 => Nat.le_refl _
  | k + 1 => by
    have := slI_len xs ys i k
    rw [slI]; split
    · simp; omega
    · omega

theorem slS_len (xs ys : List Int) : ∀ i, (slS xs ys i).length ≤ i * i
  | 0 => Nat.le_refl _
  | i + 1 => by
    have h1 := slS_len xs ys i
    have h2 := slI_len xs ys i i
    have e : (i + 1) * (i + 1) = i * i + i + i + 1 := by rw [Nat.add_mul, Nat.mul_add]; omega
    rw [slS, List.length_append]
    omega

abbrev rwF (u : AV) (n : Nat) (L : List Rat) : Ch := ⟨.rw, u, 2, n, frs L⟩

end Go.Rx.Try
