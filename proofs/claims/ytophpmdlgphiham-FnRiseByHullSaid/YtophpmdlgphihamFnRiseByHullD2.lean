import Derived.Test.YtophpmdlgphihamFnRiseByHullD1
namespace Go.Rx.Try
open Go.Proofs
set_option maxRecDepth 100000
set_option maxHeartbeats 8000000
set_option linter.unusedSimpArgs false
set_option linter.unusedVariables false

structure SqF (xs ys : List Int) : Prop where
  n : 2 ≤ xs.length ∧ xs.length ≤ 7
  sx : -84 ≤ sumL xs ∧ sumL xs ≤ 84
  sy : -84 ≤ sumL ys ∧ sumL ys ≤ 84
  del : 1 ≤ delT xs xs.length ∧ delT xs xs.length ≤ 14112
  up : -14112 ≤ (xs.length : Int) * dotT xs ys xs.length - sumL xs * sumL ys ∧ (xs.length : Int) * dotT xs ys xs.length - sumL xs * sumL ys ≤ 14112
  p1 : -7056 ≤ (xs.length : Int) * dotT xs ys xs.length ∧ (xs.length : Int) * dotT xs ys xs.length ≤ 7056
  p2 : -7056 ≤ (xs.length : Int) * dotT xs xs xs.length ∧ (xs.length : Int) * dotT xs xs xs.length ≤ 7056
  p3 : -7056 ≤ sumL xs * sumL ys ∧ sumL xs * sumL ys ≤ 7056
  p4 : -7056 ≤ sumL xs * sumL xs ∧ sumL xs * sumL xs ≤ 7056
  e : delT xs xs.length = (xs.length : Int) * dotT xs xs xs.length - sumL xs * sumL xs
  line : LineOk (sqA xs ys) (sqB xs ys) (delT xs xs.length * (xs.length : Int)) 98784 2376108

theorem Pts.bd {xs ys : List Int} (h : Pts xs ys) : Bd 12 xs ∧ Bd 12 ys := by
  refine ⟨fun x hx => ?_, fun y hy => ?_⟩
  · obtain ⟨i, hi, rfl⟩ := List.mem_iff_getElem.1 hx
    have := (h.1 i hi).2.1
    rwa [nth_of hi] at this
  · obtain ⟨i, hi, rfl⟩ := List.mem_iff_getElem.1 hy
    have := (h.1 i (by have := h.2.1; omega)).2.2
    rwa [nth_of hi] at this

theorem Cloud.sq {xs ys : List Int} (h : Cloud xs ys) : SqF xs ys := by
  obtain ⟨hp, i, hi1, hi2, hi3⟩ := h
  obtain ⟨b1, b2⟩ := hp.bd
  have hlen := hp.2.1
  have h7 := hp.2.2
  have sx := sumL_le b1 (by omega)
  have sy := sumL_le b2 (by omega)
  have hd := delT_pos hi2 hi3
  have d1 := dotT_le hp.1 (Nat.le_refl _)
  have d2 := dotT_le (hp.1.xx (Nat.le_refl _)) (Nat.le_refl _)
  have m1 := absmul (k := (xs.length : Int)) (l := dotT xs ys xs.length) (A := 7) (B := 1008) (by omega) (by omega) (by omega) (by omega)
  have m2 := absmul (k := (xs.length : Int)) (l := dotT xs xs xs.length) (A := 7) (B := 1008) (by omega) (by omega) (by omega) (by omega)
  have m3 := absmul (k := sumL xs) (l := sumL ys) (A := 84) (B := 84) (by omega) (by omega) (by omega) (by omega)
  have m4 := absmul (k := sumL xs) (l := sumL xs) (A := 84) (B := 84) (by omega) (by omega) (by omega) (by omega)
  have e : delT xs xs.length = (xs.length : Int) * dotT xs xs xs.length - sumL xs * sumL xs := by rw [delT, sumI_all]
  have hup : -14112 ≤ (xs.length : Int) * dotT xs ys xs.length - sumL xs * sumL ys ∧ (xs.length : Int) * dotT xs ys xs.length - sumL xs * sumL ys ≤ 14112 := by omega
  have hdel : 1 ≤ delT xs xs.length ∧ delT xs xs.length ≤ 14112 := by omega
  have m5 := mulbd (a := delT xs xs.length) (b := (xs.length : Int)) (A := 14112) (B := 7) (by omega) (by omega) (by omega) (by omega)
  have f1 : FD (sqA xs ys) (delT xs xs.length) 14112 := FD.div (by omega) hup
  have f2 : FD (((sumL ys : Int) : Rat) / (((xs.length : Int)) : Rat)) (xs.length : Int) 84 := FD.div (by omega) (by omega)
  have f3 : FD (((sumL xs : Int) : Rat) / (((xs.length : Int)) : Rat)) (xs.length : Int) 84 := FD.div (by omega) (by omega)
  refine ⟨by omega, by omega, by omega, hdel, hup, by omega, by omega, by omega, by omega, e, ⟨(f1.lift (m := (xs.length : Int)) (by omega)).mono (by omega), ?_, by omega, by omega, by omega⟩⟩
  have f4 := ((f2.lift (m := delT xs xs.length) (by omega)).to (Int.mul_comm _ _)).sub (f1.mul f3)
  exact f4.mono (by omega)

theorem SqF.fits {xs ys : List Int} (h : SqF xs ys) : FitM (sqA xs ys) (((sumL xs : Int) : Rat) / (((xs.length : Int)) : Rat)) ∧ FitA (((sumL ys : Int) : Rat) / (((xs.length : Int)) : Rat)) (sqA xs ys * (((sumL xs : Int) : Rat) / (((xs.length : Int)) : Rat))) := by
  obtain ⟨hn, hsx, hsy, hdel, hup, _, _, _, _, _, _⟩ := h
  have f1 : FD (sqA xs ys) (delT xs xs.length) 14112 := FD.div (by omega) hup
  have f2 : FD (((sumL ys : Int) : Rat) / (((xs.length : Int)) : Rat)) (xs.length : Int) 84 := FD.div (by omega) (by omega)
  have f3 : FD (((sumL xs : Int) : Rat) / (((xs.length : Int)) : Rat)) (xs.length : Int) 84 := FD.div (by omega) (by omega)
  have m5 := mulbd (a := delT xs xs.length) (b := (xs.length : Int)) (A := 14112) (B := 7) (by omega) (by omega) (by omega) (by omega)
  have m8 := Int.mul_nonneg (a := delT xs xs.length) (b := (xs.length : Int)) (by omega) (by omega)
  have m6 := mulbd (a := (xs.length : Int)) (b := delT xs xs.length * (xs.length : Int)) (A := 7) (B := 98784) (by omega) (by omega) (by omega) (by omega)
  have m7 := mulbd (a := (xs.length : Int)) (b := delT xs xs.length) (A := 7) (B := 14112) (by omega) (by omega) (by omega) (by omega)
  exact ⟨fitM_of f1 f3 (by omega) (by omega), fitA_of f2 (f1.mul f3) (by omega) (by omega) (by omega)⟩

abbrev cel0 (i : Nat) : Ch := ⟨.cell, .ptr i 0, 2, 1, [.int .i64 0, .int .i64 0]⟩

abbrev celF (i : Nat) (q : Rat) : Ch := ⟨.cell, .ptr i 0, 2, 1, [.int .i64 q.num, .int .i64 (q.den : Int)]⟩

theorem lawDivisor_ok {H : Heap} {a b : Int} (ha : -4611686018427387904 ≤ a ∧ a ≤ 4611686018427387904) (hb : -4611686018427387904 ≤ b ∧ b ≤ 4611686018427387904) :
    ACalls Try.prog fn_laws_divisor [.int .i64 a, .int .i64 b] H fun r H' => r = .int .i64 (Int.gcd a b : Nat) ∧ H' = H := by
  refine ACalls.val ?_ rfl
  refine code_laws_divisor.go [] trivial (by simp) ?_
  unfold mc_laws_divisor
  (repeat (first | refine gst (hk := ?_) | (show GO _ _ _ _ _ (⟨some _, none, _⟩ :: _) _; first | refine go_op (hk := ?_) | (refine go_nw (hk := ?_); intro u; try simp only [llc, lln, lna, lza]) | (refine go_np (hk := ?_); intro id)) | (show GO _ _ _ _ _ (⟨none, none, _⟩ :: _) _; refine go_st (hk := ?_)) | (show GO _ _ _ _ _ (⟨_, some _, _⟩ :: _) _; first | refine go_in (hk := ?_) | refine go_out (hk := ?_) | refine go_void (hk := ?_)) | (show GK _ _ _ _ (blockK _ _ _); refine gk_past rfl ?_) | (show GC _ _ _ _ _ (.cond _ _ _) _; first | refine gc_yes (h1 := ?_) | refine gc_no (h1 := ?_))))
  refine gc_loop (γ := Int × Int) (fun t => [(0, .int .i64 t.1), (1, .int .i64 t.2)]) (fun _ => []) (fun t => Int.gcd t.1 t.2 = Int.gcd a b ∧ (-4611686018427387904 ≤ t.1 ∧ t.1 ≤ 4611686018427387904) ∧ (-4611686018427387904 ≤ t.2 ∧ t.2 ≤ 4611686018427387904)) (fun t => t.2.natAbs) (a, b) ⟨rfl, ha, hb⟩ (hb := ?_)
  rintro ⟨x, y⟩ ⟨h1, h2, h3⟩ I ν m hk
  simp only at h1 h2 h3 hk ⊢
  (repeat (first | refine gst (hk := ?_) | (show GO _ _ _ _ _ (⟨some _, none, _⟩ :: _) _; first | refine go_op (hk := ?_) | (refine go_nw (hk := ?_); intro u; try simp only [llc, lln, lna, lza]) | (refine go_np (hk := ?_); intro id)) | (show GO _ _ _ _ _ (⟨none, none, _⟩ :: _) _; refine go_st (hk := ?_)) | (show GO _ _ _ _ _ (⟨_, some _, _⟩ :: _) _; first | refine go_in (hk := ?_) | refine go_out (hk := ?_) | refine go_void (hk := ?_)) | (show GK _ _ _ _ (blockK _ _ _); refine gk_past rfl ?_) | (show GC _ _ _ _ _ (.cond _ _ _) _; first | refine gc_yes (h1 := ?_) | refine gc_no (h1 := ?_))))
  refine gc_cond rfl (fun h => ?_) (fun h => ?_)
  · have h4 : (x.tmod y).natAbs < y.natAbs := by
      rw [Int.natAbs_tmod]; exact Nat.mod_lt _ (by omega)
    (repeat (first | refine gst (hk := ?_) | (show GO _ _ _ _ _ (⟨some _, none, _⟩ :: _) _; first | refine go_op (hk := ?_) | (refine go_nw (hk := ?_); intro u; try simp only [llc, lln, lna, lza]) | (refine go_np (hk := ?_); intro id)) | (show GO _ _ _ _ _ (⟨none, none, _⟩ :: _) _; refine go_st (hk := ?_)) | (show GO _ _ _ _ _ (⟨_, some _, _⟩ :: _) _; first | refine go_in (hk := ?_) | refine go_out (hk := ?_) | refine go_void (hk := ?_)) | (show GK _ _ _ _ (blockK _ _ _); refine gk_past rfl ?_) | (show GC _ _ _ _ _ (.cond _ _ _) _; first | refine gc_yes (h1 := ?_) | refine gc_no (h1 := ?_))))
    refine go_is rfl (stp_rem rfl rfl h) ?_
    (repeat (first | refine gst (hk := ?_) | (show GO _ _ _ _ _ (⟨some _, none, _⟩ :: _) _; first | refine go_op (hk := ?_) | (refine go_nw (hk := ?_); intro u; try simp only [llc, lln, lna, lza]) | (refine go_np (hk := ?_); intro id)) | (show GO _ _ _ _ _ (⟨none, none, _⟩ :: _) _; refine go_st (hk := ?_)) | (show GO _ _ _ _ _ (⟨_, some _, _⟩ :: _) _; first | refine go_in (hk := ?_) | refine go_out (hk := ?_) | refine go_void (hk := ?_)) | (show GK _ _ _ _ (blockK _ _ _); refine gk_past rfl ?_) | (show GC _ _ _ _ _ (.cond _ _ _) _; first | refine gc_yes (h1 := ?_) | refine gc_no (h1 := ?_))))
    exact gk_next (hk (y, x.tmod y) ⟨by rw [tmod_gcd]; exact h1, h3, by simp only; omega⟩ h4)
  · have hy : y = 0 := by omega
    subst hy
    have e : (Int.gcd a b : Nat) = x.natAbs := by rw [← h1]; simp [Int.gcd]
    (repeat (first | refine gst (hk := ?_) | (show GO _ _ _ _ _ (⟨some _, none, _⟩ :: _) _; first | refine go_op (hk := ?_) | (refine go_nw (hk := ?_); intro u; try simp only [llc, lln, lna, lza]) | (refine go_np (hk := ?_); intro id)) | (show GO _ _ _ _ _ (⟨none, none, _⟩ :: _) _; refine go_st (hk := ?_)) | (show GO _ _ _ _ _ (⟨_, some _, _⟩ :: _) _; first | refine go_in (hk := ?_) | refine go_out (hk := ?_) | refine go_void (hk := ?_)) | (show GK _ _ _ _ (blockK _ _ _); refine gk_past rfl ?_) | (show GC _ _ _ _ _ (.cond _ _ _) _; first | refine gc_yes (h1 := ?_) | refine gc_no (h1 := ?_))))
    exact gk_ret rfl fun H' hH => ⟨by rw [e]; show AV.int _ (max x (-x)) = _; congr 1; omega, hH.leE⟩

theorem lawFrac_ok {H : Heap} {a b : Int} (ha : -4611686018427387904 ≤ a ∧ a ≤ 4611686018427387904) (hb : -4611686018427387904 ≤ b ∧ b ≤ 4611686018427387904) (h0 : b ≠ 0) :
    ACalls Try.prog fn_laws_fracOf [.int .i64 a, .int .i64 b] H fun r H' => r = frV ((a : Rat) / (b : Rat)) ∧ H' = H := by
  refine ACalls.val ?_ rfl
  have hg : (0 : Int) < (Int.gcd a b : Nat) := by
    have := Int.gcd_pos_of_ne_zero_right a h0
    omega
  obtain ⟨e1, e2⟩ := div_num (a := a) h0
  refine code_laws_fracOf.go [] trivial (by simp) ?_
  unfold mc_laws_fracOf
  (repeat (first | refine gst (hk := ?_) | (with_reducible first | (refine gc_drw (h := ?_); intro _) | (refine gc_drw2 (h := ?_); intro _)) | (show GO _ _ _ _ _ (⟨some _, none, _⟩ :: _) _; first | refine go_op (hk := ?_) | (refine go_nw (hk := ?_); intro u; try simp only [llc, lln, lna, lza]) | (refine go_np (hk := ?_); intro id)) | (show GD _ _ _ _ _ _ _ (⟨some _, none, _⟩ :: _) _; first | refine gd_op (hk := ?_) | (refine gd_nw (hk := ?_); intro u; try simp only [llc, lln, lna, lza])) | (show GD2 _ _ _ _ _ _ _ _ _ _ _ _ _ _; first | refine gd2_nil rfl ?_ | refine gd2_op (hk := ?_) | (refine gd2_nw (hk := ?_); intro u; try simp only [llc, lln, lna, lza]) | refine gd2_l (hk := ?_) | refine gd2_lp (hk := ?_) | (refine gd2_newp (hk := ?_); intro id) | refine gd2_st (hk := ?_) | (refine gd2_bsl rfl rfl ?_; intro u; try simp only [llc, lln, lna, lza]) | (refine gd2_a (hk := ?_); intro u; try simp only [llc, lln, lna, lza])) | (show GO _ _ _ _ _ (⟨none, none, _⟩ :: _) _; refine go_st (hk := ?_)) | (show GD _ _ _ _ _ _ _ (⟨none, none, _⟩ :: _) _; refine gd_st (hk := ?_)) | (show GO _ _ _ _ _ (⟨_, some _, _⟩ :: _) _; first | refine go_in (hk := ?_) | refine go_out (hk := ?_) | refine go_void (hk := ?_)) | (show GK _ _ _ _ (blockK _ _ _); refine gk_past rfl ?_) | (show GC _ _ _ _ _ (.cond _ _ _) _; first | refine gc_yes (h1 := ?_) | refine gc_no (h1 := ?_))))
  refine gc_cond rfl (fun h => ?_) (fun h => ?_)
  · have eg : Int.gcd (-a) (-b) = Int.gcd a b := by rw [Int.gcd_neg, Int.neg_gcd]
    have d1 := tdiv_in (a := -a) (g := (Int.gcd a b : Nat)) (B := 4611686018427387904) (by omega)
    have d2 := tdiv_in (a := -b) (g := (Int.gcd a b : Nat)) (B := 4611686018427387904) (by omega)
    rw [show b.sign = -1 from Int.sign_eq_neg_one_of_neg h] at e1
    rw [show max b (-b) = -b by omega] at e2
    rw [show (-1 : Int) * a = -a by omega] at e1
    (repeat (first | refine gst (hk := ?_) | (with_reducible first | (refine gc_drw (h := ?_); intro _) | (refine gc_drw2 (h := ?_); intro _)) | (show GO _ _ _ _ _ (⟨some _, none, _⟩ :: _) _; first | refine go_op (hk := ?_) | (refine go_nw (hk := ?_); intro u; try simp only [llc, lln, lna, lza]) | (refine go_np (hk := ?_); intro id)) | (show GD _ _ _ _ _ _ _ (⟨some _, none, _⟩ :: _) _; first | refine gd_op (hk := ?_) | (refine gd_nw (hk := ?_); intro u; try simp only [llc, lln, lna, lza])) | (show GD2 _ _ _ _ _ _ _ _ _ _ _ _ _ _; first | refine gd2_nil rfl ?_ | refine gd2_op (hk := ?_) | (refine gd2_nw (hk := ?_); intro u; try simp only [llc, lln, lna, lza]) | refine gd2_l (hk := ?_) | refine gd2_lp (hk := ?_) | (refine gd2_newp (hk := ?_); intro id) | refine gd2_st (hk := ?_) | (refine gd2_bsl rfl rfl ?_; intro u; try simp only [llc, lln, lna, lza]) | (refine gd2_a (hk := ?_); intro u; try simp only [llc, lln, lna, lza])) | (show GO _ _ _ _ _ (⟨none, none, _⟩ :: _) _; refine go_st (hk := ?_)) | (show GD _ _ _ _ _ _ _ (⟨none, none, _⟩ :: _) _; refine gd_st (hk := ?_)) | (show GO _ _ _ _ _ (⟨_, some _, _⟩ :: _) _; first | refine go_in (hk := ?_) | refine go_out (hk := ?_) | refine go_void (hk := ?_)) | (show GK _ _ _ _ (blockK _ _ _); refine gk_past rfl ?_) | (show GC _ _ _ _ _ (.cond _ _ _) _; first | refine gc_yes (h1 := ?_) | refine gc_no (h1 := ?_))))
    refine go_callp rfl code_laws_divisor.callable (fun H hH => lawDivisor_ok (by omega) (by omega)) ?_
    rw [eg]
    (repeat (first | refine gst (hk := ?_) | (with_reducible first | (refine gc_drw (h := ?_); intro _) | (refine gc_drw2 (h := ?_); intro _)) | (show GO _ _ _ _ _ (⟨some _, none, _⟩ :: _) _; first | refine go_op (hk := ?_) | (refine go_nw (hk := ?_); intro u; try simp only [llc, lln, lna, lza]) | (refine go_np (hk := ?_); intro id)) | (show GD _ _ _ _ _ _ _ (⟨some _, none, _⟩ :: _) _; first | refine gd_op (hk := ?_) | (refine gd_nw (hk := ?_); intro u; try simp only [llc, lln, lna, lza])) | (show GD2 _ _ _ _ _ _ _ _ _ _ _ _ _ _; first | refine gd2_nil rfl ?_ | refine gd2_op (hk := ?_) | (refine gd2_nw (hk := ?_); intro u; try simp only [llc, lln, lna, lza]) | refine gd2_l (hk := ?_) | refine gd2_lp (hk := ?_) | (refine gd2_newp (hk := ?_); intro id) | refine gd2_st (hk := ?_) | (refine gd2_bsl rfl rfl ?_; intro u; try simp only [llc, lln, lna, lza]) | (refine gd2_a (hk := ?_); intro u; try simp only [llc, lln, lna, lza])) | (show GO _ _ _ _ _ (⟨none, none, _⟩ :: _) _; refine go_st (hk := ?_)) | (show GD _ _ _ _ _ _ _ (⟨none, none, _⟩ :: _) _; refine gd_st (hk := ?_)) | (show GO _ _ _ _ _ (⟨_, some _, _⟩ :: _) _; first | refine go_in (hk := ?_) | refine go_out (hk := ?_) | refine go_void (hk := ?_)) | (show GK _ _ _ _ (blockK _ _ _); refine gk_past rfl ?_) | (show GC _ _ _ _ _ (.cond _ _ _) _; first | refine gc_yes (h1 := ?_) | refine gc_no (h1 := ?_))))
    refine gd_is rfl (stp_quo (a := -a) (b := ((Int.gcd a b : Nat) : Int)) (by exact rfl) (by exact rfl) (by omega) (by omega)) ?_
    (repeat (first | refine gst (hk := ?_) | (with_reducible first | (refine gc_drw (h := ?_); intro _) | (refine gc_drw2 (h := ?_); intro _)) | (show GO _ _ _ _ _ (⟨some _, none, _⟩ :: _) _; first | refine go_op (hk := ?_) | (refine go_nw (hk := ?_); intro u; try simp only [llc, lln, lna, lza]) | (refine go_np (hk := ?_); intro id)) | (show GD _ _ _ _ _ _ _ (⟨some _, none, _⟩ :: _) _; first | refine gd_op (hk := ?_) | (refine gd_nw (hk := ?_); intro u; try simp only [llc, lln, lna, lza])) | (show GD2 _ _ _ _ _ _ _ _ _ _ _ _ _ _; first | refine gd2_nil rfl ?_ | refine gd2_op (hk := ?_) | (refine gd2_nw (hk := ?_); intro u; try simp only [llc, lln, lna, lza]) | refine gd2_l (hk := ?_) | refine gd2_lp (hk := ?_) | (refine gd2_newp (hk := ?_); intro id) | refine gd2_st (hk := ?_) | (refine gd2_bsl rfl rfl ?_; intro u; try simp only [llc, lln, lna, lza]) | (refine gd2_a (hk := ?_); intro u; try simp only [llc, lln, lna, lza])) | (show GO _ _ _ _ _ (⟨none, none, _⟩ :: _) _; refine go_st (hk := ?_)) | (show GD _ _ _ _ _ _ _ (⟨none, none, _⟩ :: _) _; refine gd_st (hk := ?_)) | (show GO _ _ _ _ _ (⟨_, some _, _⟩ :: _) _; first | refine go_in (hk := ?_) | refine go_out (hk := ?_) | refine go_void (hk := ?_)) | (show GK _ _ _ _ (blockK _ _ _); refine gk_past rfl ?_) | (show GC _ _ _ _ _ (.cond _ _ _) _; first | refine gc_yes (h1 := ?_) | refine gc_no (h1 := ?_))))
    exact gk_retc rfl (by exact Sel.auto) rfl rfl fun H' hH => ⟨by rw [frV, e1, e2]; rfl, hH.leE⟩
  · have d1 := tdiv_in (a := a) (g := (Int.gcd a b : Nat)) (B := 4611686018427387904) (by omega)
    have d2 := tdiv_in (a := b) (g := (Int.gcd a b : Nat)) (B := 4611686018427387904) (by omega)
    rw [show b.sign = 1 from Int.sign_eq_one_of_pos (by omega)] at e1
    rw [show max b (-b) = b by omega] at e2
    rw [show (1 : Int) * a = a by omega] at e1
    (repeat (first | refine gst (hk := ?_) | (with_reducible first | (refine gc_drw (h := ?_); intro _) | (refine gc_drw2 (h := ?_); intro _)) | (show GO _ _ _ _ _ (⟨some _, none, _⟩ :: _) _; first | refine go_op (hk := ?_) | (refine go_nw (hk := ?_); intro u; try simp only [llc, lln, lna, lza]) | (refine go_np (hk := ?_); intro id)) | (show GD _ _ _ _ _ _ _ (⟨some _, none, _⟩ :: _) _; first | refine gd_op (hk := ?_) | (refine gd_nw (hk := ?_); intro u; try simp only [llc, lln, lna, lza])) | (show GD2 _ _ _ _ _ _ _ _ _ _ _ _ _ _; first | refine gd2_nil rfl ?_ | refine gd2_op (hk := ?_) | (refine gd2_nw (hk := ?_); intro u; try simp only [llc, lln, lna, lza]) | refine gd2_l (hk := ?_) | refine gd2_lp (hk := ?_) | (refine gd2_newp (hk := ?_); intro id) | refine gd2_st (hk := ?_) | (refine gd2_bsl rfl rfl ?_; intro u; try simp only [llc, lln, lna, lza]) | (refine gd2_a (hk := ?_); intro u; try simp only [llc, lln, lna, lza])) | (show GO _ _ _ _ _ (⟨none, none, _⟩ :: _) _; refine go_st (hk := ?_)) | (show GD _ _ _ _ _ _ _ (⟨none, none, _⟩ :: _) _; refine gd_st (hk := ?_)) | (show GO _ _ _ _ _ (⟨_, some _, _⟩ :: _) _; first | refine go_in (hk := ?_) | refine go_out (hk := ?_) | refine go_void (hk := ?_)) | (show GK _ _ _ _ (blockK _ _ _); refine gk_past rfl ?_) | (show GC _ _ _ _ _ (.cond _ _ _) _; first | refine gc_yes (h1 := ?_) | refine gc_no (h1 := ?_))))
    refine go_callp rfl code_laws_divisor.callable (fun H hH => lawDivisor_ok (by omega) (by omega)) ?_
    (repeat (first | refine gst (hk := ?_) | (with_reducible first | (refine gc_drw (h := ?_); intro _) | (refine gc_drw2 (h := ?_); intro _)) | (show GO _ _ _ _ _ (⟨some _, none, _⟩ :: _) _; first | refine go_op (hk := ?_) | (refine go_nw (hk := ?_); intro u; try simp only [llc, lln, lna, lza]) | (refine go_np (hk := ?_); intro id)) | (show GD _ _ _ _ _ _ _ (⟨some _, none, _⟩ :: _) _; first | refine gd_op (hk := ?_) | (refine gd_nw (hk := ?_); intro u; try simp only [llc, lln, lna, lza])) | (show GD2 _ _ _ _ _ _ _ _ _ _ _ _ _ _; first | refine gd2_nil rfl ?_ | refine gd2_op (hk := ?_) | (refine gd2_nw (hk := ?_); intro u; try simp only [llc, lln, lna, lza]) | refine gd2_l (hk := ?_) | refine gd2_lp (hk := ?_) | (refine gd2_newp (hk := ?_); intro id) | refine gd2_st (hk := ?_) | (refine gd2_bsl rfl rfl ?_; intro u; try simp only [llc, lln, lna, lza]) | (refine gd2_a (hk := ?_); intro u; try simp only [llc, lln, lna, lza])) | (show GO _ _ _ _ _ (⟨none, none, _⟩ :: _) _; refine go_st (hk := ?_)) | (show GD _ _ _ _ _ _ _ (⟨none, none, _⟩ :: _) _; refine gd_st (hk := ?_)) | (show GO _ _ _ _ _ (⟨_, some _, _⟩ :: _) _; first | refine go_in (hk := ?_) | refine go_out (hk := ?_) | refine go_void (hk := ?_)) | (show GK _ _ _ _ (blockK _ _ _); refine gk_past rfl ?_) | (show GC _ _ _ _ _ (.cond _ _ _) _; first | refine gc_yes (h1 := ?_) | refine gc_no (h1 := ?_))))
    refine gd_is rfl (stp_quo (a := a) (b := ((Int.gcd a b : Nat) : Int)) (by exact rfl) (by exact rfl) (by omega) (by omega)) ?_
    (repeat (first | refine gst (hk := ?_) | (with_reducible first | (refine gc_drw (h := ?_); intro _) | (refine gc_drw2 (h := ?_); intro _)) | (show GO _ _ _ _ _ (⟨some _, none, _⟩ :: _) _; first | refine go_op (hk := ?_) | (refine go_nw (hk := ?_); intro u; try simp only [llc, lln, lna, lza]) | (refine go_np (hk := ?_); intro id)) | (show GD _ _ _ _ _ _ _ (⟨some _, none, _⟩ :: _) _; first | refine gd_op (hk := ?_) | (refine gd_nw (hk := ?_); intro u; try simp only [llc, lln, lna, lza])) | (show GD2 _ _ _ _ _ _ _ _ _ _ _ _ _ _; first | refine gd2_nil rfl ?_ | refine gd2_op (hk := ?_) | (refine gd2_nw (hk := ?_); intro u; try simp only [llc, lln, lna, lza]) | refine gd2_l (hk := ?_) | refine gd2_lp (hk := ?_) | (refine gd2_newp (hk := ?_); intro id) | refine gd2_st (hk := ?_) | (refine gd2_bsl rfl rfl ?_; intro u; try simp only [llc, lln, lna, lza]) | (refine gd2_a (hk := ?_); intro u; try simp only [llc, lln, lna, lza])) | (show GO _ _ _ _ _ (⟨none, none, _⟩ :: _) _; refine go_st (hk := ?_)) | (show GD _ _ _ _ _ _ _ (⟨none, none, _⟩ :: _) _; refine gd_st (hk := ?_)) | (show GO _ _ _ _ _ (⟨_, some _, _⟩ :: _) _; first | refine go_in (hk := ?_) | refine go_out (hk := ?_) | refine go_void (hk := ?_)) | (show GK _ _ _ _ (blockK _ _ _); refine gk_past rfl ?_) | (show GC _ _ _ _ _ (.cond _ _ _) _; first | refine gc_yes (h1 := ?_) | refine gc_no (h1 := ?_))))
    exact gk_retc rfl (by exact Sel.auto) rfl rfl fun H' hH => ⟨by rw [frV, e1, e2]; rfl, hH.leE⟩

theorem dFracL_ok (H : Heap) : FamOk Try.prog H fn_laws_fracOf dFrac := dFrac_fam code_laws_fracOf.callable (fun h => lawFrac_ok h.1 h.2.1 h.2.2) H

def frC (q : Rat) : List AV := [.int .i64 q.num, .int .i64 (q.den : Int)]

def frs : List Rat → List AV
  | [] => []
  | q :: L => frC q ++ frs L

theorem frs_app : ∀ L M : List Rat, frs (L ++ M) = frs L ++ frs M
  | [], M => rfl
  | q :: L, M => by rw [List.cons_append, frs, frs, frs_app L M, List.append_assoc]

theorem frs_one : ∀ L : List Rat, (frs L).all AV.one = true
  | [] => rfl
  | q :: L => by rw [frs, List.all_append, frs_one L]; rfl

theorem frs_take : ∀ (L : List Rat) (k : Nat), (frs L).take (k * 2) = frs (L.take k)
  | [], k => by simp [frs]
  | q :: L, 0 => by simp [frs]
  | q :: L, k + 1 => by
    rw [List.take_succ_cons, frs, frs, show (k + 1) * 2 = (frC q).length + k * 2 by simp [frC]; omega, List.take_length_add_append, frs_take L k]

theorem frs_drop : ∀ (L : List Rat) (k : Nat), (frs L).drop (k * 2) = frs (L.drop k)
  | [], k => by simp [frs]
  | q :: L, 0 => by simp
  | q :: L, k + 1 => by
    rw [List.drop_succ_cons, frs, show (k + 1) * 2 = (frC q).length + k * 2 by simp [frC]; omega, List.drop_length_add_append, frs_drop L k]

def nthR (L : List Rat) (i : Nat) : Rat := L.getD i 0

theorem nthR_of {L : List Rat} {i : Nat} (h : i < L.length) : nthR L i = L[i] := by
  unfold nthR
  rw [List.getD_eq_getElem?_getD, List.getElem?_eq_getElem h]; rfl

theorem frs_at {L : List Rat} {i : Nat} (h : i < L.length) : ((frs L).drop (i * 2)).take 2 = frC (nthR L i) := by
  have h1 := frs_take (L.drop i) 1
  rw [Nat.one_mul] at h1
  rw [frs_drop, h1, nthR_of h, List.drop_eq_getElem_cons h, List.take_succ_cons]
  simp [frs]

theorem stp_ldF {A : Heap} {X : List Nat} {E : List (Nat × AV)} {S : Sig} {p : MX} {v : AV} {n i : Nat} {L : List Rat} (hp : evE E p = some (v.elem i)) (hh : Has S v 2 n (frs L)) (hn : n = L.length) (hi : i < L.length) : Stp A X E S (.ld p 2 true) (Is (frV (nthR L i)) S) :=
  stp_ldn hp hh (by omega) (frs_at hi) rfl

theorem stp_appF {A : Heap} {X : List Nat} {E : List (Nat × AV)} {S S0 : Sig} {v w : AV} {x y : MX} {n m' : Nat} {L M : List Rat} (hx : evE E x = some v) (hy : evE E y = some w) (hs : Sel S ⟨.rw, v, 2, n, frs L⟩ S0) (hh : Has S w 2 m' (frs M)) (hm2 : n + m' ≤ 1000000000000) :
    Stp A X E S (.app x y 2 16) (New fun u => ⟨.rw, u, 2, n + m', frs (L ++ M)⟩ :: S0) := by
  simp only [frs_app]
  exact stp_app hx hy hs hh (frs_one M) (by omega) (by omega) hm2

abbrev rwF (u : AV) (n : Nat) (L : List Rat) : Ch := ⟨.rw, u, 2, n, frs L⟩

theorem fit_48 {p q : Rat} {D E : Int} (hp : FD p D 2304) (hq : FD q E 2304) (hd : D ≤ 48) (he : E ≤ 48) : FitA p q := by
  have := hp.pos.1
  have := hq.pos.1
  have m := mulbd (a := D) (b := E) (A := 48) (B := 48) (by omega) (by omega) hd he
  exact fitA_of hp hq (by omega) (by omega) (by omega)

abbrev F48 (q : Rat) : Prop := ∃ D, D ≤ 48 ∧ FD q D 2304

theorem F48.fit {p q : Rat} (h : F48 p) (h' : F48 q) : FitA p q := by
  obtain ⟨D, d, f⟩ := h
  obtain ⟨E, e, g⟩ := h'
  exact fit_48 f g d e

def DifT (xs : List Int) (n : Nat) : Prop := ∀ i, i < n → ∀ k, k < i → nth xs i ≠ nth xs k

def Dif (xs : List Int) : Prop := DifT xs xs.length

noncomputable instance (xs : List Int) : Decidable (Dif xs) := Classical.propDecidable _

theorem nthR_app {L M : List Rat} {i : Nat} (h : i < L.length) : nthR (L ++ M) i = nthR L i := by
  unfold nthR
  rw [List.getD_eq_getElem?_getD, List.getD_eq_getElem?_getD, List.getElem?_append_left h]

theorem nthR_last {L : List Rat} {q : Rat} : nthR (L ++ [q]) L.length = q := by
  unfold nthR
  rw [List.getD_eq_getElem?_getD, List.getElem?_append_right (Nat.le_refl _)]; simp

def CvOk (xs ys : List Int) : Prop := (Pts xs ys ∧ (1 ≤ (xs.length : Int) ∧ (xs.length : Int) ≤ 5)) ∧ Dif xs

noncomputable instance (xs ys : List Int) : Decidable (CvOk xs ys) := Classical.propDecidable _

theorem rat_ext_iff {p q : Rat} : (p.num = q.num ∧ (p.den : Int) = (q.den : Int)) ↔ p = q := ⟨fun h => Rat.ext h.1 (by omega), fun h => by rw [h]; exact ⟨rfl, rfl⟩⟩

theorem stp_agneF {A : Heap} {X : List Nat} {E : List (Nat × AV)} {S : Sig} {x y : MX} {p q : Rat} (hx : evE E x = some (frV p)) (hy : evE E y = some (frV q)) : Stp A X E S (.ageq true 2 x y) (Is (.bool (decide (p ≠ q))) S) := by
  have h := stp_ageq (A := A) (X := X) (S := S) (neg := true) (n := 2) (b := (p.num == q.num && ((p.den : Int) == (q.den : Int) && true))) hx hy rfl (by simp [flatEq])
  simp only [Bool.and_true, if_true, beq_dec2] at h
  rw [show decide (p.num = q.num ∧ (p.den : Int) = (q.den : Int)) = decide (p = q) from decide_eq_decide.2 rat_ext_iff, ← decide_not] at h
  exact h

theorem nthR_ext {L M : List Rat} (h : L.length = M.length) (hk : ∀ k, k < L.length → nthR L k = nthR M k) : L = M := by
  refine List.ext_getElem h fun i h1 h2 => ?_
  have := hk i h1
  rwa [nthR_of h1, nthR_of h2] at this

theorem equalFracs_ok {H : Heap} {a b : AV} {L M : List Rat} (ha : Vals H a 2 L.length (frs L)) (hb : Vals H b 2 M.length (frs M)) (hl : L.length ≤ 1000000000) (hl' : M.length ≤ 1000000000) :
    ACalls Try.prog fn_laws_equalFracs [a, b] H fun r H' => r = .bool (decide (L = M)) ∧ H' = H := by
  refine ACalls.val ?_ rfl
  refine code_laws_equalFracs.go [⟨.ro, a, 2, L.length, frs L⟩, ⟨.ro, b, 2, M.length, frs M⟩] ⟨⟨rfl, ha⟩, ⟨rfl, hb⟩, trivial⟩ (by simp) ?_
  unfold mc_laws_equalFracs
  have no : L ≠ M → decide (L = M) = false := fun h => decide_eq_false h
  (repeat (first | refine gst (hk := ?_) | (with_reducible refine gc_drq ?_; intro _) | (show GO _ _ _ _ _ (⟨some _, none, _⟩ :: _) _; first | refine go_op (hk := ?_) | (refine go_nw (hk := ?_); intro u; try simp only [llc, lln, lna, lza]) | (refine go_np (hk := ?_); intro id)) | (show GQ _ _ _ _ _ _ _ (⟨some _, none, _⟩ :: _) _; first | refine gq_op (hk := ?_) | (refine gq_nw (hk := ?_); intro u; try simp only [llc, lln, lna, lza])) | (show GO _ _ _ _ _ (⟨none, none, _⟩ :: _) _; refine go_st (hk := ?_)) | (show GO _ _ _ _ _ (⟨_, some _, _⟩ :: _) _; first | refine go_in (hk := ?_) | refine go_out (hk := ?_) | refine go_void (hk := ?_)) | (show GQ _ _ _ _ _ _ _ (⟨_, some _, _⟩ :: _) _; first | refine gq_in (hk := ?_) | refine gq_out (hk := ?_) | refine gq_void (hk := ?_)) | (show GK _ _ _ _ (blockK _ _ _); refine gk_past rfl ?_) | (show GC _ _ _ _ _ (.cond _ _ _) _; first | refine gc_yes (h1 := ?_) | refine gc_no (h1 := ?_))))
  refine gc_cond rfl (fun h => ?_) (fun h => ?_)
  · (repeat (first | refine gst (hk := ?_) | (with_reducible refine gc_drq ?_; intro _) | (show GO _ _ _ _ _ (⟨some _, none, _⟩ :: _) _; first | refine go_op (hk := ?_) | (refine go_nw (hk := ?_); intro u; try simp only [llc, lln, lna, lza]) | (refine go_np (hk := ?_); intro id)) | (show GQ _ _ _ _ _ _ _ (⟨some _, none, _⟩ :: _) _; first | refine gq_op (hk := ?_) | (refine gq_nw (hk := ?_); intro u; try simp only [llc, lln, lna, lza])) | (show GO _ _ _ _ _ (⟨none, none, _⟩ :: _) _; refine go_st (hk := ?_)) | (show GO _ _ _ _ _ (⟨_, some _, _⟩ :: _) _; first | refine go_in (hk := ?_) | refine go_out (hk := ?_) | refine go_void (hk := ?_)) | (show GQ _ _ _ _ _ _ _ (⟨_, some _, _⟩ :: _) _; first | refine gq_in (hk := ?_) | refine gq_out (hk := ?_) | refine gq_void (hk := ?_)) | (show GK _ _ _ _ (blockK _ _ _); refine gk_past rfl ?_) | (show GC _ _ _ _ _ (.cond _ _ _) _; first | refine gc_yes (h1 := ?_) | refine gc_no (h1 := ?_))))
    exact gk_ret rfl fun H' hH => ⟨by rw [no (fun e => h (by rw [e]))]; rfl, hH.leE⟩
  have h : L.length = M.length := by omega
  (repeat (first | refine gst (hk := ?_) | (with_reducible refine gc_drq ?_; intro _) | (show GO _ _ _ _ _ (⟨some _, none, _⟩ :: _) _; first | refine go_op (hk := ?_) | (refine go_nw (hk := ?_); intro u; try simp only [llc, lln, lna, lza]) | (refine go_np (hk := ?_); intro id)) | (show GQ _ _ _ _ _ _ _ (⟨some _, none, _⟩ :: _) _; first | refine gq_op (hk := ?_) | (refine gq_nw (hk := ?_); intro u; try simp only [llc, lln, lna, lza])) | (show GO _ _ _ _ _ (⟨none, none, _⟩ :: _) _; refine go_st (hk := ?_)) | (show GO _ _ _ _ _ (⟨_, some _, _⟩ :: _) _; first | refine go_in (hk := ?_) | refine go_out (hk := ?_) | refine go_void (hk := ?_)) | (show GQ _ _ _ _ _ _ _ (⟨_, some _, _⟩ :: _) _; first | refine gq_in (hk := ?_) | refine gq_out (hk := ?_) | refine gq_void (hk := ?_)) | (show GK _ _ _ _ (blockK _ _ _); refine gk_past rfl ?_) | (show GC _ _ _ _ _ (.cond _ _ _) _; first | refine gc_yes (h1 := ?_) | refine gc_no (h1 := ?_))))
  refine gc_loop (γ := Nat) (fun i => [(0, a), (1, b), (5, .int .i64 (i : Int))]) (fun _ => [⟨.ro, a, 2, L.length, frs L⟩, ⟨.ro, b, 2, M.length, frs M⟩]) (fun i => i ≤ L.length ∧ ∀ k, k < i → nthR L k = nthR M k) (fun i => L.length - i) 0 ⟨Nat.zero_le _, fun k hk => by omega⟩ (hb := ?_)
  rintro i ⟨hi, hp⟩ I ν m hk
  (repeat (first | refine gst (hk := ?_) | (with_reducible refine gc_drq ?_; intro _) | (show GO _ _ _ _ _ (⟨some _, none, _⟩ :: _) _; first | refine go_op (hk := ?_) | (refine go_nw (hk := ?_); intro u; try simp only [llc, lln, lna, lza]) | (refine go_np (hk := ?_); intro id)) | (show GQ _ _ _ _ _ _ _ (⟨some _, none, _⟩ :: _) _; first | refine gq_op (hk := ?_) | (refine gq_nw (hk := ?_); intro u; try simp only [llc, lln, lna, lza])) | (show GO _ _ _ _ _ (⟨none, none, _⟩ :: _) _; refine go_st (hk := ?_)) | (show GO _ _ _ _ _ (⟨_, some _, _⟩ :: _) _; first | refine go_in (hk := ?_) | refine go_out (hk := ?_) | refine go_void (hk := ?_)) | (show GQ _ _ _ _ _ _ _ (⟨_, some _, _⟩ :: _) _; first | refine gq_in (hk := ?_) | refine gq_out (hk := ?_) | refine gq_void (hk := ?_)) | (show GK _ _ _ _ (blockK _ _ _); refine gk_past rfl ?_) | (show GC _ _ _ _ _ (.cond _ _ _) _; first | refine gc_yes (h1 := ?_) | refine gc_no (h1 := ?_))))
  refine gc_cond rfl (fun h1 => ?_) (fun h1 => ?_)
  · (repeat (first | refine gst (hk := ?_) | (with_reducible refine gc_drq ?_; intro _) | (show GO _ _ _ _ _ (⟨some _, none, _⟩ :: _) _; first | refine go_op (hk := ?_) | (refine go_nw (hk := ?_); intro u; try simp only [llc, lln, lna, lza]) | (refine go_np (hk := ?_); intro id)) | (show GQ _ _ _ _ _ _ _ (⟨some _, none, _⟩ :: _) _; first | refine gq_op (hk := ?_) | (refine gq_nw (hk := ?_); intro u; try simp only [llc, lln, lna, lza])) | (show GO _ _ _ _ _ (⟨none, none, _⟩ :: _) _; refine go_st (hk := ?_)) | (show GO _ _ _ _ _ (⟨_, some _, _⟩ :: _) _; first | refine go_in (hk := ?_) | refine go_out (hk := ?_) | refine go_void (hk := ?_)) | (show GQ _ _ _ _ _ _ _ (⟨_, some _, _⟩ :: _) _; first | refine gq_in (hk := ?_) | refine gq_out (hk := ?_) | refine gq_void (hk := ?_)) | (show GK _ _ _ _ (blockK _ _ _); refine gk_past rfl ?_) | (show GC _ _ _ _ _ (.cond _ _ _) _; first | refine gc_yes (h1 := ?_) | refine gc_no (h1 := ?_))))
    refine gq_is rfl (stp_ldF (i := i) rfl (by exact Has.auto) rfl (by omega)) ?_
    (repeat (first | refine gst (hk := ?_) | (show GO _ _ _ _ _ (⟨some _, none, _⟩ :: _) _; first | refine go_op (hk := ?_) | (refine go_nw (hk := ?_); intro u; try simp only [llc, lln, lna, lza]) | (refine go_np (hk := ?_); intro id)) | (show GQ _ _ _ _ _ _ _ (⟨some _, none, _⟩ :: _) _; first | refine gq_op (hk := ?_) | (refine gq_nw (hk := ?_); intro u; try simp only [llc, lln, lna, lza])) | (show GO _ _ _ _ _ (⟨none, none, _⟩ :: _) _; refine go_st (hk := ?_)) | (show GO _ _ _ _ _ (⟨_, some _, _⟩ :: _) _; first | refine go_in (hk := ?_) | refine go_out (hk := ?_) | refine go_void (hk := ?_)) | (show GQ _ _ _ _ _ _ _ (⟨_, some _, _⟩ :: _) _; first | refine gq_in (hk := ?_) | refine gq_out (hk := ?_) | refine gq_void (hk := ?_)) | (show GK _ _ _ _ (blockK _ _ _); refine gk_past rfl ?_) | (show GC _ _ _ _ _ (.cond _ _ _) _; first | refine gc_yes (h1 := ?_) | refine gc_no (h1 := ?_))))
    refine gq_is rfl (stp_ldF (i := i) rfl (by exact Has.auto) rfl (by omega)) ?_
    refine gq_is rfl (stp_agneF rfl rfl) ?_
    (repeat (first | refine gst (hk := ?_) | (with_reducible refine gc_drq ?_; intro _) | (show GO _ _ _ _ _ (⟨some _, none, _⟩ :: _) _; first | refine go_op (hk := ?_) | (refine go_nw (hk := ?_); intro u; try simp only [llc, lln, lna, lza]) | (refine go_np (hk := ?_); intro id)) | (show GQ _ _ _ _ _ _ _ (⟨some _, none, _⟩ :: _) _; first | refine gq_op (hk := ?_) | (refine gq_nw (hk := ?_); intro u; try simp only [llc, lln, lna, lza])) | (show GO _ _ _ _ _ (⟨none, none, _⟩ :: _) _; refine go_st (hk := ?_)) | (show GO _ _ _ _ _ (⟨_, some _, _⟩ :: _) _; first | refine go_in (hk := ?_) | refine go_out (hk := ?_) | refine go_void (hk := ?_)) | (show GQ _ _ _ _ _ _ _ (⟨_, some _, _⟩ :: _) _; first | refine gq_in (hk := ?_) | refine gq_out (hk := ?_) | refine gq_void (hk := ?_)) | (show GK _ _ _ _ (blockK _ _ _); refine gk_past rfl ?_) | (show GC _ _ _ _ _ (.cond _ _ _) _; first | refine gc_yes (h1 := ?_) | refine gc_no (h1 := ?_))))
    refine gc_cond rfl (fun h2 => ?_) (fun h2 => ?_)
    · (repeat (first | refine gst (hk := ?_) | (with_reducible refine gc_drq ?_; intro _) | (show GO _ _ _ _ _ (⟨some _, none, _⟩ :: _) _; first | refine go_op (hk := ?_) | (refine go_nw (hk := ?_); intro u; try simp only [llc, lln, lna, lza]) | (refine go_np (hk := ?_); intro id)) | (show GQ _ _ _ _ _ _ _ (⟨some _, none, _⟩ :: _) _; first | refine gq_op (hk := ?_) | (refine gq_nw (hk := ?_); intro u; try simp only [llc, lln, lna, lza])) | (show GO _ _ _ _ _ (⟨none, none, _⟩ :: _) _; refine go_st (hk := ?_)) | (show GO _ _ _ _ _ (⟨_, some _, _⟩ :: _) _; first | refine go_in (hk := ?_) | refine go_out (hk := ?_) | refine go_void (hk := ?_)) | (show GQ _ _ _ _ _ _ _ (⟨_, some _, _⟩ :: _) _; first | refine gq_in (hk := ?_) | refine gq_out (hk := ?_) | refine gq_void (hk := ?_)) | (show GK _ _ _ _ (blockK _ _ _); refine gk_past rfl ?_) | (show GC _ _ _ _ _ (.cond _ _ _) _; first | refine gc_yes (h1 := ?_) | refine gc_no (h1 := ?_))))
      exact gk_ret rfl fun H' hH => ⟨by rw [no (fun e => h2 (by rw [e]))]; rfl, hH.leE⟩
    (repeat (first | refine gst (hk := ?_) | (with_reducible refine gc_drq ?_; intro _) | (show GO _ _ _ _ _ (⟨some _, none, _⟩ :: _) _; first | refine go_op (hk := ?_) | (refine go_nw (hk := ?_); intro u; try simp only [llc, lln, lna, lza]) | (refine go_np (hk := ?_); intro id)) | (show GQ _ _ _ _ _ _ _ (⟨some _, none, _⟩ :: _) _; first | refine gq_op (hk := ?_) | (refine gq_nw (hk := ?_); intro u; try simp only [llc, lln, lna, lza])) | (show GO _ _ _ _ _ (⟨none, none, _⟩ :: _) _; refine go_st (hk := ?_)) | (show GO _ _ _ _ _ (⟨_, some _, _⟩ :: _) _; first | refine go_in (hk := ?_) | refine go_out (hk := ?_) | refine go_void (hk := ?_)) | (show GQ _ _ _ _ _ _ _ (⟨_, some _, _⟩ :: _) _; first | refine gq_in (hk := ?_) | refine gq_out (hk := ?_) | refine gq_void (hk := ?_)) | (show GK _ _ _ _ (blockK _ _ _); refine gk_past rfl ?_) | (show GC _ _ _ _ _ (.cond _ _ _) _; first | refine gc_yes (h1 := ?_) | refine gc_no (h1 := ?_))))
    refine gk_next (hk (i + 1) ⟨by omega, fun k h3 => ?_⟩ (by omega))
    rcases Nat.lt_or_ge k i with h4 | h4
    · exact hp k h4
    · rw [show k = i by omega]; exact Decidable.not_not.1 h2
  · (repeat (first | refine gst (hk := ?_) | (with_reducible refine gc_drq ?_; intro _) | (show GO _ _ _ _ _ (⟨some _, none, _⟩ :: _) _; first | refine go_op (hk := ?_) | (refine go_nw (hk := ?_); intro u; try simp only [llc, lln, lna, lza]) | (refine go_np (hk := ?_); intro id)) | (show GQ _ _ _ _ _ _ _ (⟨some _, none, _⟩ :: _) _; first | refine gq_op (hk := ?_) | (refine gq_nw (hk := ?_); intro u; try simp only [llc, lln, lna, lza])) | (show GO _ _ _ _ _ (⟨none, none, _⟩ :: _) _; refine go_st (hk := ?_)) | (show GO _ _ _ _ _ (⟨_, some _, _⟩ :: _) _; first | refine go_in (hk := ?_) | refine go_out (hk := ?_) | refine go_void (hk := ?_)) | (show GQ _ _ _ _ _ _ _ (⟨_, some _, _⟩ :: _) _; first | refine gq_in (hk := ?_) | refine gq_out (hk := ?_) | refine gq_void (hk := ?_)) | (show GK _ _ _ _ (blockK _ _ _); refine gk_past rfl ?_) | (show GC _ _ _ _ _ (.cond _ _ _) _; first | refine gc_yes (h1 := ?_) | refine gc_no (h1 := ?_))))
    exact gk_ret rfl fun H' hH => ⟨by
      have : L = M := nthR_ext h fun k hk => hp k (by omega)
      simp [tupleOf, this], hH.leE⟩

def elF : AV → Nat → Nat → AV
  | .slice id off _ _ es, i, j => .ptr id (off + i * es + j)
  | _, _, _ => .any

theorem stp_fae {A : Heap} {X : List Nat} {E : List (Nat × AV)} {S : Sig} {x : MX} {v : AV} {es n i j : Nat} {cs : List AV} (hx : evE E x = some (v.elem i)) (hh : Has S v es n cs) (hi : i < n) : Stp A X E S (.fa x j) (Is (elF v i j) S) :=
  stp_pure fun τ H m nid hE hS => by
    have hv := hS.valsA hh
    have h1 := hv.elem hi
    cases v <;> simp only [AV.elem, Heap.read] at h1 <;> first | (simp only [mstep, ev_of hE hx, AV.elem]; rfl) | cases h1

theorem implApart0_ok {H : Heap} {x : Int} (hx : -4611686018427387904 ≤ x ∧ x ≤ 4611686018427387904) : ACalls Try.prog fn_impl_apart [.int .i64 x, .int .i64 0] H fun r H' => r = .int .i64 (max x (-x)) ∧ H' = H := by
  refine ACalls.val ?_ rfl
  refine code_impl_apart.go [] trivial (by simp) ?_
  unfold mc_impl_apart
  (repeat (first | refine gst (hk := ?_) | (show GO _ _ _ _ _ (⟨some _, none, _⟩ :: _) _; first | refine go_op (hk := ?_) | (refine go_nw (hk := ?_); intro u; try simp only [llc, lln, lna, lza]) | (refine go_np (hk := ?_); intro id)) | (show GO _ _ _ _ _ (⟨none, none, _⟩ :: _) _; refine go_st (hk := ?_)) | (show GO _ _ _ _ _ (⟨_, some _, _⟩ :: _) _; first | refine go_in (hk := ?_) | refine go_out (hk := ?_) | refine go_void (hk := ?_)) | (show GK _ _ _ _ (blockK _ _ _); refine gk_past rfl ?_) | (show GC _ _ _ _ _ (.cond _ _ _) _; first | refine gc_yes (h1 := ?_) | refine gc_no (h1 := ?_))))
  exact gk_ret rfl fun H' hH => ⟨by show AV.int _ (max (x - 0) (0 - x)) = _; congr 1; omega, hH.leE⟩

theorem commonFactor_ok {H : Heap} {a b : Int} (ha : -4611686018427387904 ≤ a ∧ a ≤ 4611686018427387904) (hb : -4611686018427387904 ≤ b ∧ b ≤ 4611686018427387904) :
    ACalls Try.prog fn_impl_commonFactor [.int .i64 a, .int .i64 b] H fun r H' => r = .int .i64 (Int.gcd a b : Nat) ∧ H' = H := by
  refine ACalls.val ?_ rfl
  refine code_impl_commonFactor.go [] trivial (by simp) ?_
  unfold mc_impl_commonFactor
  (repeat (first | refine gst (hk := ?_) | (with_reducible refine gc_drq ?_; intro _) | (show GO _ _ _ _ _ (⟨some _, none, _⟩ :: _) _; first | refine go_op (hk := ?_) | (refine go_nw (hk := ?_); intro u; try simp only [llc, lln, lna, lza]) | (refine go_np (hk := ?_); intro id)) | (show GQ _ _ _ _ _ _ _ (⟨some _, none, _⟩ :: _) _; first | refine gq_op (hk := ?_) | (refine gq_nw (hk := ?_); intro u; try simp only [llc, lln, lna, lza])) | (show GO _ _ _ _ _ (⟨none, none, _⟩ :: _) _; refine go_st (hk := ?_)) | (show GO _ _ _ _ _ (⟨_, some _, _⟩ :: _) _; first | refine go_in (hk := ?_) | refine go_out (hk := ?_) | refine go_void (hk := ?_)) | (show GQ _ _ _ _ _ _ _ (⟨_, some _, _⟩ :: _) _; first | refine gq_in (hk := ?_) | refine gq_out (hk := ?_) | refine gq_void (hk := ?_)) | (show GK _ _ _ _ (blockK _ _ _); refine gk_past rfl ?_) | (show GC _ _ _ _ _ (.cond _ _ _) _; first | refine gc_yes (h1 := ?_) | refine gc_no (h1 := ?_))))
  refine gc_loop (γ := Int × Int) (fun t => [(0, .int .i64 t.1), (1, .int .i64 t.2)]) (fun _ => []) (fun t => Int.gcd t.1 t.2 = Int.gcd a b ∧ (-4611686018427387904 ≤ t.1 ∧ t.1 ≤ 4611686018427387904) ∧ (-4611686018427387904 ≤ t.2 ∧ t.2 ≤ 4611686018427387904)) (fun t => t.2.natAbs) (a, b) ⟨rfl, ha, hb⟩ (hb := ?_)
  rintro ⟨x, y⟩ ⟨h1, h2, h3⟩ I ν m hk
  simp only at h1 h2 h3 hk ⊢
  (repeat (first | refine gst (hk := ?_) | (with_reducible refine gc_drq ?_; intro _) | (show GO _ _ _ _ _ (⟨some _, none, _⟩ :: _) _; first | refine go_op (hk := ?_) | (refine go_nw (hk := ?_); intro u; try simp only [llc, lln, lna, lza]) | (refine go_np (hk := ?_); intro id)) | (show GQ _ _ _ _ _ _ _ (⟨some _, none, _⟩ :: _) _; first | refine gq_op (hk := ?_) | (refine gq_nw (hk := ?_); intro u; try simp only [llc, lln, lna, lza])) | (show GO _ _ _ _ _ (⟨none, none, _⟩ :: _) _; refine go_st (hk := ?_)) | (show GO _ _ _ _ _ (⟨_, some _, _⟩ :: _) _; first | refine go_in (hk := ?_) | refine go_out (hk := ?_) | refine go_void (hk := ?_)) | (show GQ _ _ _ _ _ _ _ (⟨_, some _, _⟩ :: _) _; first | refine gq_in (hk := ?_) | refine gq_out (hk := ?_) | refine gq_void (hk := ?_)) | (show GK _ _ _ _ (blockK _ _ _); refine gk_past rfl ?_) | (show GC _ _ _ _ _ (.cond _ _ _) _; first | refine gc_yes (h1 := ?_) | refine gc_no (h1 := ?_))))
  refine gc_cond rfl (fun h => ?_) (fun h => ?_)
  · have h4 : (x.tmod y).natAbs < y.natAbs := by
      rw [Int.natAbs_tmod]; exact Nat.mod_lt _ (by omega)
    (repeat (first | refine gst (hk := ?_) | (with_reducible refine gc_drq ?_; intro _) | (show GO _ _ _ _ _ (⟨some _, none, _⟩ :: _) _; first | refine go_op (hk := ?_) | (refine go_nw (hk := ?_); intro u; try simp only [llc, lln, lna, lza]) | (refine go_np (hk := ?_); intro id)) | (show GQ _ _ _ _ _ _ _ (⟨some _, none, _⟩ :: _) _; first | refine gq_op (hk := ?_) | (refine gq_nw (hk := ?_); intro u; try simp only [llc, lln, lna, lza])) | (show GO _ _ _ _ _ (⟨none, none, _⟩ :: _) _; refine go_st (hk := ?_)) | (show GO _ _ _ _ _ (⟨_, some _, _⟩ :: _) _; first | refine go_in (hk := ?_) | refine go_out (hk := ?_) | refine go_void (hk := ?_)) | (show GQ _ _ _ _ _ _ _ (⟨_, some _, _⟩ :: _) _; first | refine gq_in (hk := ?_) | refine gq_out (hk := ?_) | refine gq_void (hk := ?_)) | (show GK _ _ _ _ (blockK _ _ _); refine gk_past rfl ?_) | (show GC _ _ _ _ _ (.cond _ _ _) _; first | refine gc_yes (h1 := ?_) | refine gc_no (h1 := ?_))))
    refine gq_is rfl (stp_rem rfl rfl h) ?_
    (repeat (first | refine gst (hk := ?_) | (with_reducible refine gc_drq ?_; intro _) | (show GO _ _ _ _ _ (⟨some _, none, _⟩ :: _) _; first | refine go_op (hk := ?_) | (refine go_nw (hk := ?_); intro u; try simp only [llc, lln, lna, lza]) | (refine go_np (hk := ?_); intro id)) | (show GQ _ _ _ _ _ _ _ (⟨some _, none, _⟩ :: _) _; first | refine gq_op (hk := ?_) | (refine gq_nw (hk := ?_); intro u; try simp only [llc, lln, lna, lza])) | (show GO _ _ _ _ _ (⟨none, none, _⟩ :: _) _; refine go_st (hk := ?_)) | (show GO _ _ _ _ _ (⟨_, some _, _⟩ :: _) _; first | refine go_in (hk := ?_) | refine go_out (hk := ?_) | refine go_void (hk := ?_)) | (show GQ _ _ _ _ _ _ _ (⟨_, some _, _⟩ :: _) _; first | refine gq_in (hk := ?_) | refine gq_out (hk := ?_) | refine gq_void (hk := ?_)) | (show GK _ _ _ _ (blockK _ _ _); refine gk_past rfl ?_) | (show GC _ _ _ _ _ (.cond _ _ _) _; first | refine gc_yes (h1 := ?_) | refine gc_no (h1 := ?_))))
    exact gk_next (hk (y, x.tmod y) ⟨by rw [tmod_gcd]; exact h1, h3, by simp only; omega⟩ h4)
  · have hy : y = 0 := by omega
    subst hy
    have e : (Int.gcd a b : Nat) = x.natAbs := by rw [← h1]; simp [Int.gcd]
    (repeat (first | refine gst (hk := ?_) | (with_reducible refine gc_drq ?_; intro _) | (show GO _ _ _ _ _ (⟨some _, none, _⟩ :: _) _; first | refine go_op (hk := ?_) | (refine go_nw (hk := ?_); intro u; try simp only [llc, lln, lna, lza]) | (refine go_np (hk := ?_); intro id)) | (show GQ _ _ _ _ _ _ _ (⟨some _, none, _⟩ :: _) _; first | refine gq_op (hk := ?_) | (refine gq_nw (hk := ?_); intro u; try simp only [llc, lln, lna, lza])) | (show GO _ _ _ _ _ (⟨none, none, _⟩ :: _) _; refine go_st (hk := ?_)) | (show GO _ _ _ _ _ (⟨_, some _, _⟩ :: _) _; first | refine go_in (hk := ?_) | refine go_out (hk := ?_) | refine go_void (hk := ?_)) | (show GQ _ _ _ _ _ _ _ (⟨_, some _, _⟩ :: _) _; first | refine gq_in (hk := ?_) | refine gq_out (hk := ?_) | refine gq_void (hk := ?_)) | (show GK _ _ _ _ (blockK _ _ _); refine gk_past rfl ?_) | (show GC _ _ _ _ _ (.cond _ _ _) _; first | refine gc_yes (h1 := ?_) | refine gc_no (h1 := ?_))))
    refine go_callp rfl code_impl_apart.callable (fun H hH => implApart0_ok h2) ?_
    (repeat (first | refine gst (hk := ?_) | (with_reducible refine gc_drq ?_; intro _) | (show GO _ _ _ _ _ (⟨some _, none, _⟩ :: _) _; first | refine go_op (hk := ?_) | (refine go_nw (hk := ?_); intro u; try simp only [llc, lln, lna, lza]) | (refine go_np (hk := ?_); intro id)) | (show GQ _ _ _ _ _ _ _ (⟨some _, none, _⟩ :: _) _; first | refine gq_op (hk := ?_) | (refine gq_nw (hk := ?_); intro u; try simp only [llc, lln, lna, lza])) | (show GO _ _ _ _ _ (⟨none, none, _⟩ :: _) _; refine go_st (hk := ?_)) | (show GO _ _ _ _ _ (⟨_, some _, _⟩ :: _) _; first | refine go_in (hk := ?_) | refine go_out (hk := ?_) | refine go_void (hk := ?_)) | (show GQ _ _ _ _ _ _ _ (⟨_, some _, _⟩ :: _) _; first | refine gq_in (hk := ?_) | refine gq_out (hk := ?_) | refine gq_void (hk := ?_)) | (show GK _ _ _ _ (blockK _ _ _); refine gk_past rfl ?_) | (show GC _ _ _ _ _ (.cond _ _ _) _; first | refine gc_yes (h1 := ?_) | refine gc_no (h1 := ?_))))
    exact gk_ret rfl fun H' hH => ⟨by rw [e]; show AV.int _ (max x (-x)) = _; congr 1; omega, hH.leE⟩

theorem tdiv_negneg {a g : Int} (h : 0 < g) : a.tdiv (-g) = (-a).tdiv g := by
  rw [Int.tdiv_neg, Int.neg_tdiv]

theorem lowest_ok {H : Heap} {a b : Int} (ha : -4611686018427387904 ≤ a ∧ a ≤ 4611686018427387904) (hb : -4611686018427387904 ≤ b ∧ b ≤ 4611686018427387904) (h0 : b ≠ 0) :
    ACalls Try.prog fn_impl_lowest [.int .i64 a, .int .i64 b] H fun r H' => r = frV ((a : Rat) / (b : Rat)) ∧ H' = H := by
  refine ACalls.val ?_ rfl
  have hg : (0 : Int) < (Int.gcd a b : Nat) := by
    have := Int.gcd_pos_of_ne_zero_right a h0
    omega
  have hg2 : (Int.gcd a b : Nat) ≤ b.natAbs := Nat.le_of_dvd (by omega) (Int.gcd_dvd_natAbs_right a b)
  obtain ⟨e1, e2⟩ := div_num (a := a) h0
  refine code_impl_lowest.go [] trivial (by simp) ?_
  unfold mc_impl_lowest
  (repeat (first | refine gst (hk := ?_) | (with_reducible first | (refine gc_drw (h := ?_); intro _) | (refine gc_drw2 (h := ?_); intro _)) | (show GO _ _ _ _ _ (⟨some _, none, _⟩ :: _) _; first | refine go_op (hk := ?_) | (refine go_nw (hk := ?_); intro u; try simp only [llc, lln, lna, lza]) | (refine go_np (hk := ?_); intro id)) | (show GD _ _ _ _ _ _ _ (⟨some _, none, _⟩ :: _) _; first | refine gd_op (hk := ?_) | (refine gd_nw (hk := ?_); intro u; try simp only [llc, lln, lna, lza])) | (show GD2 _ _ _ _ _ _ _ _ _ _ _ _ _ _; first | refine gd2_nil rfl ?_ | refine gd2_op (hk := ?_) | (refine gd2_nw (hk := ?_); intro u; try simp only [llc, lln, lna, lza]) | refine gd2_l (hk := ?_) | refine gd2_lp (hk := ?_) | (refine gd2_newp (hk := ?_); intro id) | refine gd2_st (hk := ?_) | (refine gd2_bsl rfl rfl ?_; intro u; try simp only [llc, lln, lna, lza]) | (refine gd2_a (hk := ?_); intro u; try simp only [llc, lln, lna, lza])) | (show GO _ _ _ _ _ (⟨none, none, _⟩ :: _) _; refine go_st (hk := ?_)) | (show GD _ _ _ _ _ _ _ (⟨none, none, _⟩ :: _) _; refine gd_st (hk := ?_)) | (show GO _ _ _ _ _ (⟨_, some _, _⟩ :: _) _; first | refine go_in (hk := ?_) | refine go_out (hk := ?_) | refine go_void (hk := ?_)) | (show GK _ _ _ _ (blockK _ _ _); refine gk_past rfl ?_) | (show GC _ _ _ _ _ (.cond _ _ _) _; first | refine gc_yes (h1 := ?_) | refine gc_no (h1 := ?_))))
  refine go_callp rfl code_impl_commonFactor.callable (fun H hH => commonFactor_ok (by omega) (by omega)) ?_
  (repeat (first | refine gst (hk := ?_) | (with_reducible first | (refine gc_drw (h := ?_); intro _) | (refine gc_drw2 (h := ?_); intro _)) | (show GO _ _ _ _ _ (⟨some _, none, _⟩ :: _) _; first | refine go_op (hk := ?_) | (refine go_nw (hk := ?_); intro u; try simp only [llc, lln, lna, lza]) | (refine go_np (hk := ?_); intro id)) | (show GD _ _ _ _ _ _ _ (⟨some _, none, _⟩ :: _) _; first | refine gd_op (hk := ?_) | (refine gd_nw (hk := ?_); intro u; try simp only [llc, lln, lna, lza])) | (show GD2 _ _ _ _ _ _ _ _ _ _ _ _ _ _; first | refine gd2_nil rfl ?_ | refine gd2_op (hk := ?_) | (refine gd2_nw (hk := ?_); intro u; try simp only [llc, lln, lna, lza]) | refine gd2_l (hk := ?_) | refine gd2_lp (hk := ?_) | (refine gd2_newp (hk := ?_); intro id) | refine gd2_st (hk := ?_) | (refine gd2_bsl rfl rfl ?_; intro u; try simp only [llc, lln, lna, lza]) | (refine gd2_a (hk := ?_); intro u; try simp only [llc, lln, lna, lza])) | (show GO _ _ _ _ _ (⟨none, none, _⟩ :: _) _; refine go_st (hk := ?_)) | (show GD _ _ _ _ _ _ _ (⟨none, none, _⟩ :: _) _; refine gd_st (hk := ?_)) | (show GO _ _ _ _ _ (⟨_, some _, _⟩ :: _) _; first | refine go_in (hk := ?_) | refine go_out (hk := ?_) | refine go_void (hk := ?_)) | (show GK _ _ _ _ (blockK _ _ _); refine gk_past rfl ?_) | (show GC _ _ _ _ _ (.cond _ _ _) _; first | refine gc_yes (h1 := ?_) | refine gc_no (h1 := ?_))))
  refine gc_cond rfl (fun h => ?_) (fun h => ?_)
  · have d1 := tdiv_in (a := -a) (g := (Int.gcd a b : Nat)) (B := 4611686018427387904) (by omega)
    have d2 := tdiv_in (a := -b) (g := (Int.gcd a b : Nat)) (B := 4611686018427387904) (by omega)
    rw [show b.sign = -1 from Int.sign_eq_neg_one_of_neg h] at e1
    rw [show max b (-b) = -b by omega] at e2
    rw [show (-1 : Int) * a = -a by omega] at e1
    rw [← tdiv_negneg hg] at d1 d2
    (repeat (first | refine gst (hk := ?_) | (with_reducible first | (refine gc_drw (h := ?_); intro _) | (refine gc_drw2 (h := ?_); intro _)) | (show GO _ _ _ _ _ (⟨some _, none, _⟩ :: _) _; first | refine go_op (hk := ?_) | (refine go_nw (hk := ?_); intro u; try simp only [llc, lln, lna, lza]) | (refine go_np (hk := ?_); intro id)) | (show GD _ _ _ _ _ _ _ (⟨some _, none, _⟩ :: _) _; first | refine gd_op (hk := ?_) | (refine gd_nw (hk := ?_); intro u; try simp only [llc, lln, lna, lza])) | (show GD2 _ _ _ _ _ _ _ _ _ _ _ _ _ _; first | refine gd2_nil rfl ?_ | refine gd2_op (hk := ?_) | (refine gd2_nw (hk := ?_); intro u; try simp only [llc, lln, lna, lza]) | refine gd2_l (hk := ?_) | refine gd2_lp (hk := ?_) | (refine gd2_newp (hk := ?_); intro id) | refine gd2_st (hk := ?_) | (refine gd2_bsl rfl rfl ?_; intro u; try simp only [llc, lln, lna, lza]) | (refine gd2_a (hk := ?_); intro u; try simp only [llc, lln, lna, lza])) | (show GO _ _ _ _ _ (⟨none, none, _⟩ :: _) _; refine go_st (hk := ?_)) | (show GD _ _ _ _ _ _ _ (⟨none, none, _⟩ :: _) _; refine gd_st (hk := ?_)) | (show GO _ _ _ _ _ (⟨_, some _, _⟩ :: _) _; first | refine go_in (hk := ?_) | refine go_out (hk := ?_) | refine go_void (hk := ?_)) | (show GK _ _ _ _ (blockK _ _ _); refine gk_past rfl ?_) | (show GC _ _ _ _ _ (.cond _ _ _) _; first | refine gc_yes (h1 := ?_) | refine gc_no (h1 := ?_))))
    refine gd_is rfl (stp_quo (a := a) (b := -((Int.gcd a b : Nat) : Int)) (by exact rfl) (by exact rfl) (by omega) (by omega)) ?_
    (repeat (first | refine gst (hk := ?_) | (with_reducible first | (refine gc_drw (h := ?_); intro _) | (refine gc_drw2 (h := ?_); intro _)) | (show GO _ _ _ _ _ (⟨some _, none, _⟩ :: _) _; first | refine go_op (hk := ?_) | (refine go_nw (hk := ?_); intro u; try simp only [llc, lln, lna, lza]) | (refine go_np (hk := ?_); intro id)) | (show GD _ _ _ _ _ _ _ (⟨some _, none, _⟩ :: _) _; first | refine gd_op (hk := ?_) | (refine gd_nw (hk := ?_); intro u; try simp only [llc, lln, lna, lza])) | (show GD2 _ _ _ _ _ _ _ _ _ _ _ _ _ _; first | refine gd2_nil rfl ?_ | refine gd2_op (hk := ?_) | (refine gd2_nw (hk := ?_); intro u; try simp only [llc, lln, lna, lza]) | refine gd2_l (hk := ?_) | refine gd2_lp (hk := ?_) | (refine gd2_newp (hk := ?_); intro id) | refine gd2_st (hk := ?_) | (refine gd2_bsl rfl rfl ?_; intro u; try simp only [llc, lln, lna, lza]) | (refine gd2_a (hk := ?_); intro u; try simp only [llc, lln, lna, lza])) | (show GO _ _ _ _ _ (⟨none, none, _⟩ :: _) _; refine go_st (hk := ?_)) | (show GD _ _ _ _ _ _ _ (⟨none, none, _⟩ :: _) _; refine gd_st (hk := ?_)) | (show GO _ _ _ _ _ (⟨_, some _, _⟩ :: _) _; first | refine go_in (hk := ?_) | refine go_out (hk := ?_) | refine go_void (hk := ?_)) | (show GK _ _ _ _ (blockK _ _ _); refine gk_past rfl ?_) | (show GC _ _ _ _ _ (.cond _ _ _) _; first | refine gc_yes (h1 := ?_) | refine gc_no (h1 := ?_))))
    refine gd_is rfl (stp_quo (a := b) (b := -((Int.gcd a b : Nat) : Int)) (by exact rfl) (by exact rfl) (by omega) (by omega)) ?_
    (repeat (first | refine gst (hk := ?_) | (with_reducible first | (refine gc_drw (h := ?_); intro _) | (refine gc_drw2 (h := ?_); intro _)) | (show GO _ _ _ _ _ (⟨some _, none, _⟩ :: _) _; first | refine go_op (hk := ?_) | (refine go_nw (hk := ?_); intro u; try simp only [llc, lln, lna, lza]) | (refine go_np (hk := ?_); intro id)) | (show GD _ _ _ _ _ _ _ (⟨some _, none, _⟩ :: _) _; first | refine gd_op (hk := ?_) | (refine gd_nw (hk := ?_); intro u; try simp only [llc, lln, lna, lza])) | (show GD2 _ _ _ _ _ _ _ _ _ _ _ _ _ _; first | refine gd2_nil rfl ?_ | refine gd2_op (hk := ?_) | (refine gd2_nw (hk := ?_); intro u; try simp only [llc, lln, lna, lza]) | refine gd2_l (hk := ?_) | refine gd2_lp (hk := ?_) | (refine gd2_newp (hk := ?_); intro id) | refine gd2_st (hk := ?_) | (refine gd2_bsl rfl rfl ?_; intro u; try simp only [llc, lln, lna, lza]) | (refine gd2_a (hk := ?_); intro u; try simp only [llc, lln, lna, lza])) | (show GO _ _ _ _ _ (⟨none, none, _⟩ :: _) _; refine go_st (hk := ?_)) | (show GD _ _ _ _ _ _ _ (⟨none, none, _⟩ :: _) _; refine gd_st (hk := ?_)) | (show GO _ _ _ _ _ (⟨_, some _, _⟩ :: _) _; first | refine go_in (hk := ?_) | refine go_out (hk := ?_) | refine go_void (hk := ?_)) | (show GK _ _ _ _ (blockK _ _ _); refine gk_past rfl ?_) | (show GC _ _ _ _ _ (.cond _ _ _) _; first | refine gc_yes (h1 := ?_) | refine gc_no (h1 := ?_))))
    exact gk_retc rfl (by exact Sel.auto) rfl rfl fun H' hH => ⟨by rw [tdiv_negneg hg, tdiv_negneg hg, frV, e1, e2, Int.tdiv_eq_ediv_of_nonneg (show 0 ≤ -b by omega)]; rfl, hH.leE⟩
  · have d1 := tdiv_in (a := a) (g := (Int.gcd a b : Nat)) (B := 4611686018427387904) (by omega)
    have d2 := tdiv_in (a := b) (g := (Int.gcd a b : Nat)) (B := 4611686018427387904) (by omega)
    rw [show b.sign = 1 from Int.sign_eq_one_of_pos (by omega)] at e1
    rw [show max b (-b) = b by omega] at e2
    rw [show (1 : Int) * a = a by omega] at e1
    (repeat (first | refine gst (hk := ?_) | (with_reducible first | (refine gc_drw (h := ?_); intro _) | (refine gc_drw2 (h := ?_); intro _)) | (show GO _ _ _ _ _ (⟨some _, none, _⟩ :: _) _; first | refine go_op (hk := ?_) | (refine go_nw (hk := ?_); intro u; try simp only [llc, lln, lna, lza]) | (refine go_np (hk := ?_); intro id)) | (show GD _ _ _ _ _ _ _ (⟨some _, none, _⟩ :: _) _; first | refine gd_op (hk := ?_) | (refine gd_nw (hk := ?_); intro u; try simp only [llc, lln, lna, lza])) | (show GD2 _ _ _ _ _ _ _ _ _ _ _ _ _ _; first | refine gd2_nil rfl ?_ | refine gd2_op (hk := ?_) | (refine gd2_nw (hk := ?_); intro u; try simp only [llc, lln, lna, lza]) | refine gd2_l (hk := ?_) | refine gd2_lp (hk := ?_) | (refine gd2_newp (hk := ?_); intro id) | refine gd2_st (hk := ?_) | (refine gd2_bsl rfl rfl ?_; intro u; try simp only [llc, lln, lna, lza]) | (refine gd2_a (hk := ?_); intro u; try simp only [llc, lln, lna, lza])) | (show GO _ _ _ _ _ (⟨none, none, _⟩ :: _) _; refine go_st (hk := ?_)) | (show GD _ _ _ _ _ _ _ (⟨none, none, _⟩ :: _) _; refine gd_st (hk := ?_)) | (show GO _ _ _ _ _ (⟨_, some _, _⟩ :: _) _; first | refine go_in (hk := ?_) | refine go_out (hk := ?_) | refine go_void (hk := ?_)) | (show GK _ _ _ _ (blockK _ _ _); refine gk_past rfl ?_) | (show GC _ _ _ _ _ (.cond _ _ _) _; first | refine gc_yes (h1 := ?_) | refine gc_no (h1 := ?_))))
    refine gd_is rfl (stp_quo (a := a) (b := ((Int.gcd a b : Nat) : Int)) (by exact rfl) (by exact rfl) (by omega) (by omega)) ?_
    (repeat (first | refine gst (hk := ?_) | (with_reducible first | (refine gc_drw (h := ?_); intro _) | (refine gc_drw2 (h := ?_); intro _)) | (show GO _ _ _ _ _ (⟨some _, none, _⟩ :: _) _; first | refine go_op (hk := ?_) | (refine go_nw (hk := ?_); intro u; try simp only [llc, lln, lna, lza]) | (refine go_np (hk := ?_); intro id)) | (show GD _ _ _ _ _ _ _ (⟨some _, none, _⟩ :: _) _; first | refine gd_op (hk := ?_) | (refine gd_nw (hk := ?_); intro u; try simp only [llc, lln, lna, lza])) | (show GD2 _ _ _ _ _ _ _ _ _ _ _ _ _ _; first | refine gd2_nil rfl ?_ | refine gd2_op (hk := ?_) | (refine gd2_nw (hk := ?_); intro u; try simp only [llc, lln, lna, lza]) | refine gd2_l (hk := ?_) | refine gd2_lp (hk := ?_) | (refine gd2_newp (hk := ?_); intro id) | refine gd2_st (hk := ?_) | (refine gd2_bsl rfl rfl ?_; intro u; try simp only [llc, lln, lna, lza]) | (refine gd2_a (hk := ?_); intro u; try simp only [llc, lln, lna, lza])) | (show GO _ _ _ _ _ (⟨none, none, _⟩ :: _) _; refine go_st (hk := ?_)) | (show GD _ _ _ _ _ _ _ (⟨none, none, _⟩ :: _) _; refine gd_st (hk := ?_)) | (show GO _ _ _ _ _ (⟨_, some _, _⟩ :: _) _; first | refine go_in (hk := ?_) | refine go_out (hk := ?_) | refine go_void (hk := ?_)) | (show GK _ _ _ _ (blockK _ _ _); refine gk_past rfl ?_) | (show GC _ _ _ _ _ (.cond _ _ _) _; first | refine gc_yes (h1 := ?_) | refine gc_no (h1 := ?_))))
    exact gk_retc rfl (by exact Sel.auto) rfl rfl fun H' hH => ⟨by rw [frV, e1, e2]; rfl, hH.leE⟩

theorem implPlus_ok {H : Heap} {p q : Rat} (hf : FitA p q) :
    ACalls Try.prog fn_impl_Frac_plus [frV p, frV q] H fun r H' => r = frV (p + q) ∧ H' = H := by
  refine ACalls.val ?_ rfl
  obtain ⟨h1, h2, h3⟩ := hf
  have h4 := dd_pos p q
  unfold frV
  refine code_impl_Frac_plus.go [] trivial (by simp) ?_
  unfold mc_impl_Frac_plus
  (repeat (first | refine gst (hk := ?_) | (show GO _ _ _ _ _ (⟨some _, none, _⟩ :: _) _; first | refine go_op (hk := ?_) | (refine go_nw (hk := ?_); intro u; try simp only [llc, lln, lna, lza]) | (refine go_np (hk := ?_); intro id)) | (show GO _ _ _ _ _ (⟨none, none, _⟩ :: _) _; refine go_st (hk := ?_)) | (show GO _ _ _ _ _ (⟨_, some _, _⟩ :: _) _; first | refine go_in (hk := ?_) | refine go_out (hk := ?_) | refine go_void (hk := ?_)) | (show GK _ _ _ _ (blockK _ _ _); refine gk_past rfl ?_) | (show GC _ _ _ _ _ (.cond _ _ _) _; first | refine gc_yes (h1 := ?_) | refine gc_no (h1 := ?_))))
  refine go_callp rfl code_impl_lowest.callable (fun H hH => lowest_ok (by omega) (by omega) (by omega)) ?_
  rw [add_nd]
  (repeat (first | refine gst (hk := ?_) | (show GO _ _ _ _ _ (⟨some _, none, _⟩ :: _) _; first | refine go_op (hk := ?_) | (refine go_nw (hk := ?_); intro u; try simp only [llc, lln, lna, lza]) | (refine go_np (hk := ?_); intro id)) | (show GO _ _ _ _ _ (⟨none, none, _⟩ :: _) _; refine go_st (hk := ?_)) | (show GO _ _ _ _ _ (⟨_, some _, _⟩ :: _) _; first | refine go_in (hk := ?_) | refine go_out (hk := ?_) | refine go_void (hk := ?_)) | (show GK _ _ _ _ (blockK _ _ _); refine gk_past rfl ?_) | (show GC _ _ _ _ _ (.cond _ _ _) _; first | refine gc_yes (h1 := ?_) | refine gc_no (h1 := ?_))))
  exact gk_retc rfl (by exact Sel.auto) rfl rfl fun H' hH => ⟨rfl, hH.leE⟩

theorem fitA_neg {p q : Rat} (hf : FitA p q) : FitA p (-q) := by
  obtain ⟨h1, h2, h3⟩ := hf
  unfold FitA
  rw [Rat.neg_num, Rat.neg_den, Int.neg_mul]
  exact ⟨h1, by omega, h3⟩

theorem implMinus_ok {H : Heap} {p q : Rat} (hf : FitA p q) (hq : -4611686018427387904 ≤ q.num ∧ q.num ≤ 4611686018427387904) :
    ACalls Try.prog fn_impl_Frac_minus [frV p, frV q] H fun r H' => r = frV (p - q) ∧ H' = H := by
  refine ACalls.val ?_ rfl
  have hn := fitA_neg hf
  have e : frV (-q) = .agg [.int .i64 (-q.num), .int .i64 (q.den : Int)] := by rw [frV, Rat.neg_num, Rat.neg_den]
  have e3 : p + -q = p - q := by grind
  unfold frV
  refine code_impl_Frac_minus.go [] trivial (by simp) ?_
  unfold mc_impl_Frac_minus
  (repeat (first | refine gst (hk := ?_) | (show GO _ _ _ _ _ (⟨some _, none, _⟩ :: _) _; first | refine go_op (hk := ?_) | (refine go_nw (hk := ?_); intro u; try simp only [llc, lln, lna, lza]) | (refine go_np (hk := ?_); intro id)) | (show GO _ _ _ _ _ (⟨none, none, _⟩ :: _) _; refine go_st (hk := ?_)) | (show GO _ _ _ _ _ (⟨_, some _, _⟩ :: _) _; first | refine go_in (hk := ?_) | refine go_out (hk := ?_) | refine go_void (hk := ?_)) | (show GK _ _ _ _ (blockK _ _ _); refine gk_past rfl ?_) | (show GC _ _ _ _ _ (.cond _ _ _) _; first | refine gc_yes (h1 := ?_) | refine gc_no (h1 := ?_))))
  refine go_callp rfl code_impl_Frac_plus.callable (fun H hH => by
    have h := implPlus_ok (H := H) hn
    rw [e, e3] at h
    exact h) ?_
  (repeat (first | refine gst (hk := ?_) | (show GO _ _ _ _ _ (⟨some _, none, _⟩ :: _) _; first | refine go_op (hk := ?_) | (refine go_nw (hk := ?_); intro u; try simp only [llc, lln, lna, lza]) | (refine go_np (hk := ?_); intro id)) | (show GO _ _ _ _ _ (⟨none, none, _⟩ :: _) _; refine go_st (hk := ?_)) | (show GO _ _ _ _ _ (⟨_, some _, _⟩ :: _) _; first | refine go_in (hk := ?_) | refine go_out (hk := ?_) | refine go_void (hk := ?_)) | (show GK _ _ _ _ (blockK _ _ _); refine gk_past rfl ?_) | (show GC _ _ _ _ _ (.cond _ _ _) _; first | refine gc_yes (h1 := ?_) | refine gc_no (h1 := ?_))))
  exact gk_retc rfl (by exact Sel.auto) rfl rfl fun H' hH => ⟨rfl, hH.leE⟩

/-- times a whole number -/
theorem implTimes_ok {H : Heap} {p : Rat} {n : Int} (hf : FitM p (n : Rat)) :
    ACalls Try.prog fn_impl_Frac_times [frV p, .int .i64 n] H fun r H' => r = frV (p * (n : Rat)) ∧ H' = H := by
  refine ACalls.val ?_ rfl
  obtain ⟨h1, h3⟩ := hf
  have h4 := dd_pos p (n : Rat)
  have e := mul_nd p (n : Rat)
  simp only [Rat.num_intCast, Rat.den_intCast, Int.natCast_one, Int.mul_one] at h1 h3 h4 e
  unfold frV
  refine code_impl_Frac_times.go [] trivial (by simp) ?_
  unfold mc_impl_Frac_times
  (repeat (first | refine gst (hk := ?_) | (show GO _ _ _ _ _ (⟨some _, none, _⟩ :: _) _; first | refine go_op (hk := ?_) | (refine go_nw (hk := ?_); intro u; try simp only [llc, lln, lna, lza]) | (refine go_np (hk := ?_); intro id)) | (show GO _ _ _ _ _ (⟨none, none, _⟩ :: _) _; refine go_st (hk := ?_)) | (show GO _ _ _ _ _ (⟨_, some _, _⟩ :: _) _; first | refine go_in (hk := ?_) | refine go_out (hk := ?_) | refine go_void (hk := ?_)) | (show GK _ _ _ _ (blockK _ _ _); refine gk_past rfl ?_) | (show GC _ _ _ _ _ (.cond _ _ _) _; first | refine gc_yes (h1 := ?_) | refine gc_no (h1 := ?_))))
  refine go_callp rfl code_impl_lowest.callable (fun H hH => lowest_ok (by omega) (by omega) (by omega)) ?_
  rw [e]
  (repeat (first | refine gst (hk := ?_) | (show GO _ _ _ _ _ (⟨some _, none, _⟩ :: _) _; first | refine go_op (hk := ?_) | (refine go_nw (hk := ?_); intro u; try simp only [llc, lln, lna, lza]) | (refine go_np (hk := ?_); intro id)) | (show GO _ _ _ _ _ (⟨none, none, _⟩ :: _) _; refine go_st (hk := ?_)) | (show GO _ _ _ _ _ (⟨_, some _, _⟩ :: _) _; first | refine go_in (hk := ?_) | refine go_out (hk := ?_) | refine go_void (hk := ?_)) | (show GK _ _ _ _ (blockK _ _ _); refine gk_past rfl ?_) | (show GC _ _ _ _ _ (.cond _ _ _) _; first | refine gc_yes (h1 := ?_) | refine gc_no (h1 := ?_))))
  exact gk_retc rfl (by exact Sel.auto) rfl rfl fun H' hH => ⟨rfl, hH.leE⟩

/-- which fraction is less: -1, 0, 1 -/
def cmR (p q : Rat) : Int := sgn (p.num * (q.den : Int) - q.num * (p.den : Int))

theorem cmR_pos {p q : Rat} : 0 < cmR p q ↔ q < p := by
  rw [Rat.lt_iff]; unfold cmR sgn
  split
  · omega
  · split <;> omega

theorem implCompare_ok {H : Heap} {p q : Rat} (hf : FitA p q) :
    ACalls Try.prog fn_impl_Frac_compare [frV p, frV q] H fun r H' => r = .int .i64 (cmR p q) ∧ H' = H := by
  refine ACalls.val ?_ rfl
  obtain ⟨h1, h2, h3⟩ := hf
  unfold frV
  refine code_impl_Frac_compare.go [] trivial (by simp) ?_
  unfold mc_impl_Frac_compare
  (repeat (first | refine gst (hk := ?_) | (refine gq_call rfl (fun _ => qtCmp_is) ?_) | (show GO _ _ _ _ _ (⟨some _, none, _⟩ :: _) _; first | refine go_op (hk := ?_) | (refine go_nw (hk := ?_); intro u; try simp only [llc, lln, lna, lza]) | (refine go_np (hk := ?_); intro id)) | (show GO _ _ _ _ _ (⟨none, none, _⟩ :: _) _; refine go_st (hk := ?_)) | (show GO _ _ _ _ _ (⟨_, some _, _⟩ :: _) _; first | refine go_in (hk := ?_) | refine go_out (hk := ?_) | refine go_void (hk := ?_)) | (show GK _ _ _ _ (blockK _ _ _); refine gk_past rfl ?_) | (show GC _ _ _ _ _ (.cond _ _ _) _; first | refine gc_yes (h1 := ?_) | refine gc_no (h1 := ?_))))
  refine go_callp rfl code_cmp_Compare_int.callable (fun H hH => compare_ok) ?_
  (repeat (first | refine gst (hk := ?_) | (refine gq_call rfl (fun _ => qtCmp_is) ?_) | (show GO _ _ _ _ _ (⟨some _, none, _⟩ :: _) _; first | refine go_op (hk := ?_) | (refine go_nw (hk := ?_); intro u; try simp only [llc, lln, lna, lza]) | (refine go_np (hk := ?_); intro id)) | (show GO _ _ _ _ _ (⟨none, none, _⟩ :: _) _; refine go_st (hk := ?_)) | (show GO _ _ _ _ _ (⟨_, some _, _⟩ :: _) _; first | refine go_in (hk := ?_) | refine go_out (hk := ?_) | refine go_void (hk := ?_)) | (show GK _ _ _ _ (blockK _ _ _); refine gk_past rfl ?_) | (show GC _ _ _ _ _ (.cond _ _ _) _; first | refine gc_yes (h1 := ?_) | refine gc_no (h1 := ?_))))
  exact gk_ret rfl fun H' hH => ⟨rfl, hH.leE⟩

def cellsK {α : Type} (c : α → List AV) : List α → List AV
  | [] => []
  | q :: L => c q ++ cellsK c L

structure Cels {α : Type} (c : α → List AV) (k : Nat) : Prop where
  len : ∀ a, (c a).length = k
  one : ∀ a, (c a).all AV.one = true

theorem ck_len {α : Type} {c : α → List AV} {k : Nat} (h : Cels c k) : ∀ L : List α, (cellsK c L).length = L.length * k
  | [] => by simp [cellsK]
  | q :: L => by rw [cellsK, List.length_append, ck_len h L, h.len, List.length_cons, Nat.add_mul]; omega

theorem ck_app {α : Type} {c : α → List AV} : ∀ L M : List α, cellsK c (L ++ M) = cellsK c L ++ cellsK c M
  | [], M => rfl
  | q :: L, M => by rw [List.cons_append, cellsK, cellsK, ck_app L M, List.append_assoc]

theorem ck_one {α : Type} {c : α → List AV} {k : Nat} (h : Cels c k) : ∀ L : List α, (cellsK c L).all AV.one = true
  | [] => rfl
  | q :: L => by rw [cellsK, List.all_append, ck_one h L, h.one]; rfl

theorem ck_take {α : Type} {c : α → List AV} {k : Nat} (h : Cels c k) : ∀ (L : List α) (i : Nat), (cellsK c L).take (i * k) = cellsK c (L.take i)
  | [], i => by simp [cellsK]
  | q :: L, 0 => by simp [cellsK]
  | q :: L, i + 1 => by
    rw [List.take_succ_cons, cellsK, cellsK, show (i + 1) * k = (c q).length + i * k by rw [h.len, Nat.add_mul]; omega, List.take_length_add_append, ck_take h L i]

theorem ck_drop {α : Type} {c : α → List AV} {k : Nat} (h : Cels c k) : ∀ (L : List α) (i : Nat), (cellsK c L).drop (i * k) = cellsK c (L.drop i)
  | [], i => by simp [cellsK]
  | q :: L, 0 => by simp
  | q :: L, i + 1 => by
    rw [List.drop_succ_cons, cellsK, show (i + 1) * k = (c q).length + i * k by rw [h.len, Nat.add_mul]; omega, List.drop_length_add_append, ck_drop h L i]

def nthA {α : Type} (d : α) (L : List α) (i : Nat) : α := L.getD i d

theorem nthA_of {α : Type} {d : α} {L : List α} {i : Nat} (h : i < L.length) : nthA d L i = L[i] := by
  unfold nthA
  rw [List.getD_eq_getElem?_getD, List.getElem?_eq_getElem h]; rfl

theorem ck_at {α : Type} {c : α → List AV} {k : Nat} (hc : Cels c k) {d : α} {L : List α} {i : Nat} (h : i < L.length) : ((cellsK c L).drop (i * k)).take k = c (nthA d L i) := by
  have h1 := ck_take hc (L.drop i) 1
  rw [Nat.one_mul] at h1
  rw [ck_drop hc, h1, nthA_of h, List.drop_eq_getElem_cons h, List.take_succ_cons]
  simp [cellsK]

theorem packC_agg (ds : List AV) : packC true ds = some (.agg ds) := by unfold packC; split <;> rfl

theorem stp_ldK {α : Type} {c : α → List AV} {k : Nat} (hc : Cels c k) (d : α) {A : Heap} {X : List Nat} {E : List (Nat × AV)} {S : Sig} {p : MX} {v : AV} {n i : Nat} {L : List α} (hp : evE E p = some (v.elem i)) (hh : Has S v k n (cellsK c L)) (hn : n = L.length) (hi : i < L.length) : Stp A X E S (.ld p k true) (Is (.agg (c (nthA d L i))) S) :=
  stp_ldn hp hh (by omega) (ck_at hc hi) (packC_agg _)

theorem stp_appK {α : Type} {c : α → List AV} {k bytes : Nat} (hc : Cels c k) (hk : 0 < k) {A : Heap} {X : List Nat} {E : List (Nat × AV)} {S S0 : Sig} {v w : AV} {x y : MX} {n m' : Nat} {L M : List α} (hx : evE E x = some v) (hy : evE E y = some w) (hs : Sel S ⟨.rw, v, k, n, cellsK c L⟩ S0) (hh : Has S w k m' (cellsK c M)) (hb : (n + m') * bytes ≤ 140737488355328) (hm2 : n + m' ≤ 1000000000000) :
    Stp A X E S (.app x y k bytes) (New fun u => ⟨.rw, u, k, n + m', cellsK c (L ++ M)⟩ :: S0) := by
  simp only [ck_app]
  exact stp_app hx hy hs hh (ck_one hc M) (by omega) (by omega) hm2

theorem ck_set {α : Type} {c : α → List AV} {k : Nat} (hc : Cels c k) {L : List α} {i : Nat} (hi : i < L.length) (a : α) : (cellsK c L).take (i * k) ++ c a ++ (cellsK c L).drop (i * k + k) = cellsK c (L.set i a) := by
  rw [ck_take hc, show i * k + k = (i + 1) * k by rw [Nat.add_mul]; omega, ck_drop hc, List.set_eq_take_append_cons_drop, if_pos hi, ck_app, List.append_assoc]
  rfl

theorem stp_stK {α : Type} {c : α → List AV} {k : Nat} (hc : Cels c k) {A : Heap} {X : List Nat} {E : List (Nat × AV)} {S S0 : Sig} {p x : MX} {v : AV} {n i : Nat} {L : List α} {a : α} (hp : evE E p = some (v.elem i)) (hx : evE E x = some (.agg (c a))) (hs : Sel S ⟨.rw, v, k, n, cellsK c L⟩ S0) (hn : n = L.length) (hi : i < n) : Stp A X E S (.st p x k) (Is .any (⟨.rw, v, k, n, cellsK c (L.set i a)⟩ :: S0)) := by
  refine ⟨?_⟩
  intro τ H m nid hE hS hm
  have hS' := hS.sel hs
  have hcc := hS'.ch ⟨.rw, v, k, n, cellsK c L⟩ (by simp)
  obtain ⟨h1, h2, h3⟩ := hcc
  simp only at h1 h2 h3
  rcases h3 with ⟨_, h3⟩ | ⟨id, rfl, h4, h5⟩
  · omega
  · have hle : i * k + k ≤ n * k := by
      have := Nat.mul_le_mul_right k (show i + 1 ≤ n by omega)
      rw [Nat.add_mul] at this; omega
    have hH : H.write (AV.elem (.slice id 0 n none k) i) (c a) = some (H.put id (some ⟨true, cellsK c (L.set i a)⟩)) := by
      simp only [AV.elem, Heap.write, h5]
      rw [if_pos ⟨trivial, by rw [hc.len, h2]; omega, hc.one a⟩, Nat.zero_add, hc.len, ck_set hc (by omega)]
    refine ⟨.any, _, H.put id (some ⟨true, cellsK c (L.set i a)⟩), m, ⟨rfl, rfl⟩, ?_, ?_, Nat.le_refl _, by omega, Nat.le_refl _⟩
    · simp only [mstep, ev_of hE hp, ev_of hE hx, AV.cells, hc.len, if_true, hH, Option.map_some]
    · refine hS'.mod rfl ?_ (Nat.le_refl _) hS.mh ?_ (.inl rfl)
      · intro id' _ hne
        rw [Heap.get_put, if_neg]
        intro e; subst e; exact hne rfl
      · refine ⟨h1, by simp [ck_len hc, hn], .inr ⟨id, rfl, h4, by simp [Heap.get_put]⟩⟩

theorem zrep_K {α : Type} {c : α → List AV} {k : Nat} (hc : Cels c k) (a : α) : ∀ n, zrep (c a) (n * k) = cellsK c (List.replicate n a)
  | 0 => by simp [zrep, cellsK]
  | n + 1 => by
    rw [List.replicate_succ', ck_app, ← zrep_K hc a n]
    unfold zrep
    rw [Nat.add_mul, Nat.one_mul, List.range_add, List.map_append, List.map_map]
    congr 1
    have e : cellsK c [a] = c a := by simp [cellsK]
    rw [e, hc.len]
    apply List.ext_getElem
    · simp [hc.len]
    · intro i h1 h2
      rw [hc.len] at h2
      simp only [List.getElem_map, List.getElem_range, Function.comp]
      rw [show n * k + i = i + k * n by rw [Nat.mul_comm]; omega, Nat.add_mul_mod_self_left, Nat.mod_eq_of_lt h2, List.getD_eq_getElem?_getD, List.getElem?_eq_getElem (by rw [hc.len]; exact h2)]
      rfl

theorem stp_mkK {α : Type} {c : α → List AV} {k bytes : Nat} (hc : Cels c k) (a : α) {A : Heap} {X : List Nat} {E : List (Nat × AV)} {S : Sig} {x y : MX} {z : List AV} {l : Int} (n : Nat) (hx : evE E x = some (.int .i64 l)) (hy : evE E y = some (.int .i64 l)) (hl : l = (n : Int)) (hz : z = c a) (hn : bytes * n ≤ 281474976710656) (hn2 : n ≤ 1000000000000) : Stp A X E S (.mks x y z k bytes) (New fun v => ⟨.rw, v, k, n, cellsK c (List.replicate n a)⟩ :: S) := by
  subst hz; subst hl
  refine ⟨?_⟩
  intro τ H m nid hE hS hm
  have hs := Heap.lt_new H nid (some ⟨true, cellsK c (List.replicate n a)⟩)
  refine ⟨.slice nid 0 n none k, _, H.new nid (some ⟨true, cellsK c (List.replicate n a)⟩), nid + 1, rfl, ?_, ?_, by omega, Nat.le_refl _, Heap.size_le_new _ _ _⟩
  · simp only [mstep, ev_of hE hx, ev_of hE hy]
    rw [if_pos ⟨by omega, by omega, by omega, by rw [← Int.natCast_mul]; omega⟩]
    simp only [Int.toNat_natCast, zrep_K hc]
  · refine hS.add ?_ (by omega) hs ⟨?_, ?_, .inr ⟨nid, rfl, .inl (by have := hS.am; omega), by simp [Heap.get_new]⟩⟩ ?_
    · intro id hid; rw [Heap.get_new, if_neg (by omega)]
    · intro k hk; simp only [AV.bid, Option.some.injEq] at hk; omega
    · simp [ck_len hc]
    · intro k hk; simp only [AV.bid, Option.some.injEq] at hk; omega

/-- a part of a slice of one's own -/
def subW : AV → Nat → Nat → AV
  | .slice id off _ cap es, l, h => .slice id (off + l * es) (h - l) (cap.map (· - l)) es
  | v, _, _ => v

theorem stp_slw {A : Heap} {X : List Nat} {E : List (Nat × AV)} {S S0 : Sig} {x z : MX} {v : AV} {k n l : Nat} {cs : List AV} (hx : evE E x = some v) (hz : evE E z = some (.int .i64 (l : Int))) (hs : Sel S ⟨.rw, v, k, n, cs⟩ S0) (hl : l ≤ n) : Stp A X E S (.sl x (some z) none none k) (Is (subW v l n) S) :=
  stp_pure fun τ H m nid hE hS => by
    have hcc := (hS.sel hs).ch ⟨.rw, v, k, n, cs⟩ (by simp)
    obtain ⟨h1, h2, h3⟩ := hcc
    simp only at h1 h2 h3
    have e1 : bnd n (some (AV.int .i64 (l : Int))) 0 = some l := by
      simp only [bnd]; rw [if_pos (by omega)]; simp
    rcases h3 with ⟨rfl, h3⟩ | ⟨id, rfl, h4, h5⟩
    · subst h3
      simp only [mstep, ev_of hE hx, Option.map_some, Option.map_none, ev_of hE hz, msl, AV.len]
      have e0 : bnd 0 (none : Option AV) 0 = some 0 := rfl
      simp only [e0, e1, subW]; rfl
    · have e0 : bnd n (none : Option AV) n = some n := rfl
      simp only [mstep, ev_of hE hx, Option.map_some, Option.map_none, ev_of hE hz, msl, AV.len, e0, e1, subW]
      simp

theorem ck_mid {α : Type} {c : α → List AV} {k : Nat} (hc : Cels c k) {L M : List α} {l : Nat} : (cellsK c L).take (l * k) ++ cellsK c M ++ (cellsK c L).drop (l * k + (cellsK c M).length) = cellsK c (L.take l ++ M ++ L.drop (l + M.length)) := by
  rw [ck_take hc, ck_len hc, ← Nat.add_mul, ck_drop hc, ck_app, ck_app]

theorem stp_cpyW {α : Type} {c : α → List AV} {k : Nat} (hc : Cels c k) (hk : 0 < k) {A : Heap} {X : List Nat} {E : List (Nat × AV)} {S S0 : Sig} {x y : MX} {v u w : AV} {n l m' : Nat} {L M : List α} (hx : evE E x = some u) (hu : u = subW v l n ∨ (l = 0 ∧ u = v)) (hy : evE E y = some w) (hh : Has S w k m' (cellsK c M)) (hs : Sel S ⟨.rw, v, k, n, cellsK c L⟩ S0) (hn : n = L.length) (hm' : m' = M.length) (hl : l + m' ≤ n) :
    Stp A X E S (.cpy x y k) (Is (.int .i64 (m' : Int)) (⟨.rw, v, k, n, cellsK c (L.take l ++ M ++ L.drop (l + m'))⟩ :: S0)) := by
  refine ⟨?_⟩
  intro τ H m nid hE hS hm
  have hv := hS.valsA hh
  have hS' := hS.sel hs
  have hcc := hS'.ch ⟨.rw, v, k, n, cellsK c L⟩ (by simp)
  obtain ⟨h1, h2, h3⟩ := hcc
  simp only at h1 h2 h3
  rcases h3 with ⟨rfl, h3⟩ | ⟨id, rfl, h4, h5⟩
  · have hu' : u = .nilSlice := by rcases hu with rfl | ⟨_, rfl⟩ <;> rfl
    subst hu'
    have hL : L = [] := List.eq_nil_of_length_eq_zero (by omega)
    have hM : M = [] := List.eq_nil_of_length_eq_zero (by omega)
    subst hL; subst hM
    simp only [List.length_nil] at hm' hn
    subst hm'; subst hn
    refine ⟨.int .i64 0, _, H, m, ⟨rfl, rfl⟩, ?_, ?_, Nat.le_refl _, by omega, Nat.le_refl _⟩
    · simp only [mstep, ev_of hE hx, ev_of hE hy]
      rw [if_pos hv.sl, hv.row]
    · simpa [cellsK] using hS'
  · obtain ⟨cap, hu'⟩ : ∃ cap, u = .slice id (l * k) (n - l) cap k := by
      rcases hu with rfl | ⟨rfl, rfl⟩
      · exact ⟨(none : Option Nat).map (· - l), by simp only [subW, Nat.zero_add]⟩
      · exact ⟨none, by rw [Nat.zero_mul, Nat.sub_zero]⟩
    subst hu'
    by_cases h0 : m' = 0
    · have hM : M = [] := List.eq_nil_of_length_eq_zero (by omega)
      subst hM
      subst h0
      refine ⟨.int .i64 0, _, H, m, ⟨rfl, rfl⟩, ?_, ?_, Nat.le_refl _, by omega, Nat.le_refl _⟩
      · simp only [mstep, ev_of hE hx, ev_of hE hy]
        rw [if_pos hv.sl, hv.row]
        simp only
        rw [if_pos ⟨trivial, hk, by rw [hv.cells, hv.len]⟩, hv.len, Nat.zero_min, if_pos rfl]
      · simpa using hS'
    · have hle : l * k + m' * k ≤ n * k := by rw [← Nat.add_mul]; exact Nat.mul_le_mul_right k hl
      have hml : (cellsK c M).length = m' * k := by rw [ck_len hc, hm']
      have hH : H.write (.ptr id (l * k)) (cellsK c M) = some (H.put id (some ⟨true, cellsK c (L.take l ++ M ++ L.drop (l + m'))⟩)) := by
        simp only [Heap.write, h5]
        rw [if_pos ⟨trivial, by rw [hml, h2]; exact hle, ck_one hc M⟩, ck_mid hc, hm']
      refine ⟨.int .i64 (m' : Int), _, H.put id (some ⟨true, cellsK c (L.take l ++ M ++ L.drop (l + m'))⟩), m, ⟨rfl, rfl⟩, ?_, ?_, Nat.le_refl _, by omega, Nat.le_refl _⟩
      · simp only [mstep, ev_of hE hx, ev_of hE hy]
        rw [if_pos hv.sl, hv.row]
        simp only
        rw [if_pos ⟨trivial, hk, by rw [hv.cells, hv.len]⟩, hv.len, Nat.min_eq_left (by omega), if_neg h0, List.take_of_length_le (by omega), hH]
        rfl
      · refine hS'.mod rfl ?_ (Nat.le_refl _) hS.mh ?_ (.inl rfl)
        · intro id' _ hne
          rw [Heap.get_put, if_neg]
          intro e; subst e; exact hne rfl
        · refine ⟨h1, by simp [ck_len hc]; congr 1; omega, .inr ⟨id, rfl, h4, by simp [Heap.get_put]⟩⟩
/- points -/

def pnC (p : Int × Int) : List AV := [.int .i64 p.1, .int .i64 p.2]

theorem cels_pn : Cels pnC 2 := ⟨fun _ => rfl, fun _ => rfl⟩

abbrev pns (L : List (Int × Int)) : List AV := cellsK pnC L

abbrev pnV (p : Int × Int) : AV := .agg [.int .i64 p.1, .int .i64 p.2]

abbrev nthP (L : List (Int × Int)) (i : Nat) : Int × Int := nthA (0, 0) L i

abbrev roP (u : AV) (n : Nat) (L : List (Int × Int)) : Ch := ⟨.ro, u, 2, n, pns L⟩

abbrev rwP (u : AV) (n : Nat) (L : List (Int × Int)) : Ch := ⟨.rw, u, 2, n, pns L⟩
/- fits: a line and what it misses -/

def tabS {α : Type} (n : Nat) (f : Nat → α) : List α := (List.range n).map f

theorem tabS_len {α : Type} (n : Nat) (f : Nat → α) : (tabS n f).length = n := by simp [tabS]

theorem tabS_nth {α : Type} {d : α} {n : Nat} {f : Nat → α} {i : Nat} (h : i < n) : nthA d (tabS n f) i = f i := by
  rw [nthA_of (by rw [tabS_len]; exact h)]
  simp [tabS]

theorem tabS_set {α : Type} {n i : Nat} {f : Nat → α} {x : α} : (tabS n f).set i x = tabS n fun k => if k = i then x else f k := by
  apply List.ext_getElem
  · simp [tabS]
  · intro k h1 h2
    rw [List.getElem_set]
    simp only [tabS, List.getElem_map, List.getElem_range]
    by_cases h : i = k
    · subst h; simp
    · rw [if_neg h, if_neg (fun e => h e.symm)]

theorem tabS_congr {α : Type} {n : Nat} {f g : Nat → α} (h : ∀ i, i < n → f i = g i) : tabS n f = tabS n g := by
  unfold tabS
  exact List.map_congr_left fun i hi => h i (List.mem_range.1 hi)

theorem tabS_rep {α : Type} (n : Nat) (a : α) : List.replicate n a = tabS n fun _ => a := by
  apply List.ext_getElem
  · simp [tabS]
  · intro k h1 h2
    simp [tabS]

def ptL (xs ys : List Int) : List (Int × Int) := tabS xs.length fun k => (nth xs k, nth ys k)

theorem ptL_len (xs ys : List Int) : (ptL xs ys).length = xs.length := tabS_len _ _

theorem ptL_nth {xs ys : List Int} {i : Nat} (h : i < xs.length) : nthP (ptL xs ys) i = (nth xs i, nth ys i) := tabS_nth h

def PtsM (xs ys : List Int) (m : Nat) : Prop := (xs.length = ys.length ∧ 1 ≤ xs.length ∧ xs.length ≤ m) ∧ PtsT xs ys xs.length

noncomputable instance (xs ys : List Int) (m : Nat) : Decidable (PtsM xs ys m) := Classical.propDecidable _

theorem Cloud.m {xs ys : List Int} (h : Cloud xs ys) : PtsM xs ys 7 := by
  obtain ⟨⟨h1, h2, h3⟩, i, h4, h5, _⟩ := h
  exact ⟨⟨h2, by omega, h3⟩, h1⟩

theorem implWhole_ok' {H : Heap} {n : Int} : ACalls Try.prog fn_impl_whole [.int .i64 n] H fun r H' => r = frV (n : Rat) ∧ H' = H := by
  refine ACalls.val ?_ rfl
  refine code_impl_whole.go [] trivial (by simp) ?_
  unfold mc_impl_whole
  (repeat (first | refine gst (hk := ?_) | (show GO _ _ _ _ _ (⟨some _, none, _⟩ :: _) _; first | refine go_op (hk := ?_) | (refine go_nw (hk := ?_); intro u; try simp only [llc, lln, lna, lza]) | (refine go_np (hk := ?_); intro id)) | (show GO _ _ _ _ _ (⟨none, none, _⟩ :: _) _; refine go_st (hk := ?_)) | (show GO _ _ _ _ _ (⟨_, some _, _⟩ :: _) _; first | refine go_in (hk := ?_) | refine go_out (hk := ?_) | refine go_void (hk := ?_)) | (show GK _ _ _ _ (blockK _ _ _); refine gk_past rfl ?_) | (show GC _ _ _ _ _ (.cond _ _ _) _; first | refine gc_yes (h1 := ?_) | refine gc_no (h1 := ?_))))
  exact gk_retc rfl (by exact Sel.auto) rfl rfl fun H' hH => ⟨rfl, hH.leE⟩

theorem implMinusA_ok {H : Heap} {p q : Rat} (hf : FitA p q) :
    ACalls Try.prog fn_impl_Frac_minus [frV p, frV q] H fun r H' => r = frV (p - q) ∧ H' = H := by
  have h := mul_le_self (a := q.num) (m := (p.den : Int)) (B := 2000000000000000000) (by have := den_pos p; omega) ⟨hf.2.1.1, hf.2.1.2⟩
  exact implMinus_ok hf (by omega)

noncomputable def dMinusI := fam2 FitA fun p q => frV (p - q)

theorem dMinusI_ok (H : Heap) : FamOk Try.prog H fn_impl_Frac_minus dMinusI := fam2_ok code_impl_Frac_minus.callable (fun h => implMinusA_ok h) H

def dWhole : List AV → Option AV
  | [.int .i64 n] => some (frV (n : Rat))
  | _ => none

theorem dWhole_ok (H : Heap) : FamOk Try.prog H fn_impl_whole dWhole := by
  intro args v hv
  unfold dWhole at hv
  split at hv
  · simp only [Option.some.injEq] at hv; subst hv
    exact ⟨code_impl_whole.callable, implWhole_ok'⟩
  · cases hv

noncomputable def dTimesI : List AV → Option AV
  | [v, .int .i64 n] => match frOf v with
    | some p => by
      classical
      exact if FitM p (n : Rat) then some (frV (p * (n : Rat))) else none
    | none => none
  | _ => none

theorem dTimesI_is {p : Rat} {n : Int} (h : FitM p (n : Rat)) : dTimesI [frV p, .int .i64 n] = some (frV (p * (n : Rat))) := by
  simp only [dTimesI, frOf_frV]
  exact if_pos h

theorem dTimesI_ok (H : Heap) : FamOk Try.prog H fn_impl_Frac_times dTimesI := by
  intro args v hv
  unfold dTimesI at hv
  split at hv
  · split at hv
    · rename_i p h1
      split at hv
      · rename_i hF
        simp only [Option.some.injEq] at hv; subst hv
        rw [frOf_some h1]
        exact ⟨code_impl_Frac_times.callable, implTimes_ok hF⟩
      · cases hv
    · cases hv
  · cases hv

abbrev lnV (s h : Rat) : AV := .agg [.int .i64 s.num, .int .i64 (s.den : Int), .int .i64 h.num, .int .i64 (h.den : Int)]

def thS (p q : Int × Int) : Rat := ((q.2 - p.2 : Int) : Rat) / ((q.1 - p.1 : Int) : Rat)

theorem gc_nilK {P : Program} {A : Heap} {X : List Nat} {E : List (Nat × AV)} {S : Sig} {c : MC} {Q : Exit → St → Prop} (es : Nat) (h : GC P A X E (⟨.rw, .nilSlice, es, 0, []⟩ :: S) c Q) : GC P A X E S c Q := ⟨fun s hf => h.g s ⟨hf.env, hf.ok.nil es⟩⟩

noncomputable def dOne (args : List AV) (r : AV) : List AV → Option AV := fun a => by
  classical
  exact if a = args then some r else none

theorem dOne_is {args : List AV} {r : AV} : dOne args r args = some r := if_pos rfl

theorem dOne_ok {P : Program} {H : Heap} {f : FuncId} {args : List AV} {r : AV} (hc : Callable P f) (h : ACalls P f args H fun r' H' => r' = r ∧ H' = H) : FamOk P H f (dOne args r) := by
  intro a v hv
  unfold dOne at hv
  split at hv
  · rename_i e
    simp only [Option.some.injEq] at hv; subst hv; subst e
    exact ⟨hc, h⟩
  · cases hv

structure GD4 (P : Program) (Qt : FuncId → List AV → Option AV) (base k : Nat) (A : Heap) (X : List Nat) (E : List (Nat × AV)) (S : Sig) (acc : List (List Nat × List Nat)) (prs : List (Nat × Nat)) (l : List MI) (C : List (List Nat × List Nat) → Prop) (K : St → Prop) : Prop where
  g : ∀ s m, EnvOk E s.τ → SOk A X S m s.H → m ≤ base + k → dopsC P Qt base k l s acc prs C K

theorem gc_drw4 {P : Program} {A : Heap} {X : List Nat} {E : List (Nat × AV)} {S : Sig} {Q : Exit → St → Prop} {prs : List (Nat × Nat)} {l : List MI} (Qt : FuncId → List AV → Option AV) (h : ∀ H0, SOk A X S H0.size H0 → GD4 P Qt H0.size 0 A X E S [] prs l (fun acc => ∀ H, (∀ id, (∀ f ∈ acc, id ∉ f.2) → H.get id = H0.get id) → QtOk P Qt H) (Q .normal)) : GC P A X E S (.drw l prs) Q := by
  refine ⟨fun s hf => ?_⟩
  rw [mwp_drw]
  exact ⟨Qt, (h s.H hf.ok).g _ s.H.size hf.env (hf.ok.same (fun _ _ => rfl) (Nat.le_refl _) (by simp [Heap.ext])) (Nat.le_refl _)⟩

theorem gd4_nil {P : Program} {Qt : FuncId → List AV → Option AV} {base k : Nat} {A : Heap} {X : List Nat} {E : List (Nat × AV)} {S : Sig} {acc : List (List Nat × List Nat)} {prs : List (Nat × Nat)} {C : List (List Nat × List Nat) → Prop} {K : St → Prop} (hp : pairsOk acc prs) (hC : C acc) (h : GK A X E S K) : GD4 P Qt base k A X E S acc prs [] C K :=
  ⟨fun s m hE hS hm => ⟨⟨hp, hC⟩, h.g s ⟨hE, hS.bump hS.mh (Nat.le_refl _)⟩⟩⟩

theorem gd4_is {P : Program} {Qt : FuncId → List AV → Option AV} {base k : Nat} {A : Heap} {X : List Nat} {E : List (Nat × AV)} {S S' : Sig} {acc : List (List Nat × List Nat)} {prs : List (Nat × Nat)} {C : List (List Nat × List Nat) → Prop} {K : St → Prop} {r : List MI} {d : Nat} {v : AV} {op : MOp} (hq : (!op.isCall && !writes op && !reads op) = true) (hs : Stp A X E S op (Is v S')) (hk : GD4 P Qt base (k + 1) A X ((d, v) :: E) S' (acc ++ [([], [])]) prs r C K) : GD4 P Qt base k A X E S acc prs (⟨some d, none, op⟩ :: r) C K := by
  have hp : op.isCall = false := by simp at hq; exact hq.1.1
  refine ⟨fun s m hE hS hm => ?_⟩
  obtain ⟨v', S'', H', m', ⟨rfl, rfl⟩, h2, h3, h4, h5, h6⟩ := hs.stp s.τ s.H m (base + k) hE hS hm
  simp only [dopsC, dstep_plain2 hp, h2, (quiet_foot hq s.τ (base + k)).1, (quiet_foot hq s.τ (base + k)).2]
  exact hk.g _ m' (look_cons hE d _) h3 (by omega)

theorem gd4_ld {P : Program} {Qt : FuncId → List AV → Option AV} {base k : Nat} {A : Heap} {X : List Nat} {E : List (Nat × AV)} {S : Sig} {acc : List (List Nat × List Nat)} {prs : List (Nat × Nat)} {C : List (List Nat × List Nat) → Prop} {K : St → Prop} {r : List MI} {d n : Nat} {v u : AV} {p : MX} {b : Bool} (hp : evE E p = some u) (hs : Stp A X E S (.ld p n b) (Is v S)) (hk : GD4 P Qt base (k + 1) A X ((d, v) :: E) S (acc ++ [(vid u, [])]) prs r C K) : GD4 P Qt base k A X E S acc prs (⟨some d, none, .ld p n b⟩ :: r) C K := by
  refine ⟨fun s m hE hS hm => ?_⟩
  obtain ⟨v', S'', H', m', ⟨rfl, rfl⟩, h2, h3, h4, h5, h6⟩ := hs.stp s.τ s.H m (base + k) hE hS hm
  have hd0 : dstep P Qt (base + k) ⟨some d, none, (.ld p n b)⟩ s = mstep (base + k) s.τ s.H (.ld p n b) := dstep_plain2 rfl
  have hf : foot s.τ (.ld p n b) = vid u := by simp only [foot, ev_of hE hp]
  have ht : touch (base + k) s.τ (.ld p n b) = [] := rfl
  simp only [dopsC, hd0, h2, hf, ht]
  exact hk.g _ m' (look_cons hE d _) h3 (by omega)

theorem gd4_call {P : Program} {Qt : FuncId → List AV → Option AV} {base k : Nat} {A : Heap} {X : List Nat} {E : List (Nat × AV)} {S : Sig} {acc : List (List Nat × List Nat)} {prs : List (Nat × Nat)} {C : List (List Nat × List Nat) → Prop} {K : St → Prop} {r : List MI} {d : Nat} {v : AV} {f : FuncId} {args : List MX} {vs : List AV} (ha : evsE E args = some vs) (hq : Qt f vs = some v) (hk : GD4 P Qt base (k + 1) A X ((d, v) :: E) S (acc ++ [([], [])]) prs r C K) : GD4 P Qt base k A X E S acc prs (⟨some d, none, .call f args⟩ :: r) C K := by
  refine ⟨fun s m hE hS hm => ?_⟩
  have e : dstep P Qt (base + k) ⟨some d, none, .call f args⟩ s = some (v, s.H) := by
    simp only [dstep, gcheck, mcallee, evs_of hE ha, hq]
  simp only [dopsC, e]
  exact hk.g _ m (look_cons hE d _) hS (by omega)

end Go.Rx.Try
