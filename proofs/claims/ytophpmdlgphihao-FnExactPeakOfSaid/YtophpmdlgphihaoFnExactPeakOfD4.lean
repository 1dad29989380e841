import Derived.Test.YtophpmdlgphihaoFnExactPeakOfD3
namespace Go.Rx.Try
open Go.Proofs
set_option maxRecDepth 100000
set_option maxHeartbeats 8000000
set_option linter.unusedSimpArgs false
set_option linter.unusedVariables false

theorem specSpread_ok {H : Heap} {a b c : AV} {xs ws : List Int} (ha : Ints H a xs) (hb : Ints H b ws) (hc : Ints H c (blL xs ws)) (hL : Loads xs ws) :
    ACalls Try.prog fn_spec_spreadOut [a, b, c] H fun r H' => Own H H' r 2 xs.length (frs (fiL xs ws xs.length)) ∧ Le H H' := by
  have hl := hL.2.2.1
  have hn := hL.2.2.2.2
  have hbl := hL.bl_len
  have hBk := hL.blk.1
  have hsl : (blL xs ws).length = (poS (rS xs ws) (rW ws) xs.length).length := stI_len _
  refine code_spec_spreadOut.go [.roI a xs.length xs, .roI b ws.length ws, .roI c (blL xs ws).length (blL xs ws)] ⟨⟨rfl, ha⟩, ⟨rfl, hb⟩, ⟨rfl, hc⟩, trivial⟩ (by simp) ?_
  unfold mc_spec_spreadOut
  (repeat (first | refine gst (hk := ?_) | (show GO _ _ _ _ _ (⟨some _, none, _⟩ :: _) _; first | refine go_op (hk := ?_) | (refine go_nw (hk := ?_); intro u; try simp only [llc, lln, lna, lza]) | (refine go_np (hk := ?_); intro id)) | (show GO _ _ _ _ _ (⟨none, none, _⟩ :: _) _; refine go_st (hk := ?_)) | (show GO _ _ _ _ _ (⟨_, some _, _⟩ :: _) _; first | refine go_in (hk := ?_) | refine go_out (hk := ?_) | refine go_void (hk := ?_)) | (show GK _ _ _ _ (blockK _ _ _); refine gk_past rfl ?_) | (show GC _ _ _ _ _ (.cond _ _ _) _; first | refine gc_yes (h1 := ?_) | refine gc_no (h1 := ?_))))
  refine go_new rfl stp_bsl0 ?_
  intro u
  (repeat (first | refine gst (hk := ?_) | (show GO _ _ _ _ _ (⟨some _, none, _⟩ :: _) _; first | refine go_op (hk := ?_) | (refine go_nw (hk := ?_); intro u; try simp only [llc, lln, lna, lza]) | (refine go_np (hk := ?_); intro id)) | (show GO _ _ _ _ _ (⟨none, none, _⟩ :: _) _; refine go_st (hk := ?_)) | (show GO _ _ _ _ _ (⟨_, some _, _⟩ :: _) _; first | refine go_in (hk := ?_) | refine go_out (hk := ?_) | refine go_void (hk := ?_)) | (show GK _ _ _ _ (blockK _ _ _); refine gk_past rfl ?_) | (show GC _ _ _ _ _ (.cond _ _ _) _; first | refine gc_yes (h1 := ?_) | refine gc_no (h1 := ?_))))
  refine gc_loop (γ := Nat × AV × Nat) (fun g => [(0, a), (1, b), (2, c), (7, g.2.1), (8, .int .i64 (g.1 : Int))]) (fun g => [rwF g.2.1 g.2.2 (fiL xs ws g.2.2), .roI a xs.length xs, .roI b ws.length ws, .roI c (blL xs ws).length (blL xs ws)]) (fun g => g.1 ≤ (blL xs ws).length ∧ (g.1 < (blL xs ws).length → nth (blL xs ws) g.1 = (g.2.2 : Int)) ∧ (g.1 = (blL xs ws).length → g.2.2 = xs.length)) (fun g => (blL xs ws).length - g.1) (0, u, 0) ⟨Nat.zero_le _, fun h => ?_, fun h => by dsimp only at h; omega⟩ (hb := ?_)
  · obtain ⟨s, w, g1, g2, g3, g4, g5, g6, g7, g8⟩ := blk_at hBk 0 (by dsimp only at h; omega)
    rw [show blL xs ws = stI (poS (rS xs ws) (rW ws) xs.length) from rfl, g1, g6 rfl]
  rintro ⟨i, u1, s⟩ ⟨hi, h1, h2⟩ I ν m hk
  simp only at hi h1 h2 hk ⊢
  (repeat (first | refine gst (hk := ?_) | (show GO _ _ _ _ _ (⟨some _, none, _⟩ :: _) _; first | refine go_op (hk := ?_) | (refine go_nw (hk := ?_); intro u; try simp only [llc, lln, lna, lza]) | (refine go_np (hk := ?_); intro id)) | (show GO _ _ _ _ _ (⟨none, none, _⟩ :: _) _; refine go_st (hk := ?_)) | (show GO _ _ _ _ _ (⟨_, some _, _⟩ :: _) _; first | refine go_in (hk := ?_) | refine go_out (hk := ?_) | refine go_void (hk := ?_)) | (show GK _ _ _ _ (blockK _ _ _); refine gk_past rfl ?_) | (show GC _ _ _ _ _ (.cond _ _ _) _; first | refine gc_yes (h1 := ?_) | refine gc_no (h1 := ?_))))
  refine gc_cond rfl (fun h => ?_) (fun h => ?_)
  · obtain ⟨s', w, g1, g2, g3, g4, g5, g6, g7, g8⟩ := blk_at hBk i (by omega)
    have hss : s' = s := by
      have := h1 (by omega)
      rw [show blL xs ws = stI (poS (rS xs ws) (rW ws) xs.length) from rfl, g1] at this; omega
    subst hss
    have hnx : (if i + 1 < (blL xs ws).length then nth (blL xs ws) (i + 1) else (xs.length : Int)) = (w : Int) := by rw [hsl]; exact g2
    have hns : nth (blL xs ws) i = (s' : Int) := g1
    have inner : ∀ u2, GK H [] [(0, a), (1, b), (2, c), (7, u2), (8, .int .i64 ((i + 1 : Nat) : Int))] [rwF u2 w (fiL xs ws w), .roI a xs.length xs, .roI b ws.length ws, .roI c (blL xs ws).length (blL xs ws)] _ := fun u2 => hk (i + 1, u2, w) ⟨by dsimp only; omega, fun h3 => by dsimp only at h3 ⊢; rw [if_pos h3] at hnx; exact hnx, fun h3 => by dsimp only at h3 ⊢; exact g7 (by omega)⟩ (by dsimp only; omega)
    (repeat (first | refine gst (hk := ?_) | (show GO _ _ _ _ _ (⟨some _, none, _⟩ :: _) _; first | refine go_op (hk := ?_) | (refine go_nw (hk := ?_); intro u; try simp only [llc, lln, lna, lza]) | (refine go_np (hk := ?_); intro id)) | (show GO _ _ _ _ _ (⟨none, none, _⟩ :: _) _; refine go_st (hk := ?_)) | (show GO _ _ _ _ _ (⟨_, some _, _⟩ :: _) _; first | refine go_in (hk := ?_) | refine go_out (hk := ?_) | refine go_void (hk := ?_)) | (show GK _ _ _ _ (blockK _ _ _); refine gk_past rfl ?_) | (show GC _ _ _ _ _ (.cond _ _ _) _; first | refine gc_yes (h1 := ?_) | refine gc_no (h1 := ?_))))
    refine gc_cond rfl (fun h3 => ?_) (fun h3 => ?_)
    all_goals
      have h3' := h3
      first
        | (rw [if_pos (by omega)] at hnx)
        | (rw [if_neg (by omega)] at hnx)
      (repeat (first | refine gst (hk := ?_) | (show GO _ _ _ _ _ (⟨some _, none, _⟩ :: _) _; first | refine go_op (hk := ?_) | (refine go_nw (hk := ?_); intro u; try simp only [llc, lln, lna, lza]) | (refine go_np (hk := ?_); intro id)) | (show GO _ _ _ _ _ (⟨none, none, _⟩ :: _) _; refine go_st (hk := ?_)) | (show GO _ _ _ _ _ (⟨_, some _, _⟩ :: _) _; first | refine go_in (hk := ?_) | refine go_out (hk := ?_) | refine go_void (hk := ?_)) | (show GK _ _ _ _ (blockK _ _ _); refine gk_past rfl ?_) | (show GC _ _ _ _ _ (.cond _ _ _) _; first | refine gc_yes (h1 := ?_) | refine gc_no (h1 := ?_))))
      try rw [show (((i : Int) + 1).toNat) = i + 1 by omega]
      try rw [hnx]
      (repeat (first | refine gst (hk := ?_) | (show GO _ _ _ _ _ (⟨some _, none, _⟩ :: _) _; first | refine go_op (hk := ?_) | (refine go_nw (hk := ?_); intro u; try simp only [llc, lln, lna, lza]) | (refine go_np (hk := ?_); intro id)) | (show GO _ _ _ _ _ (⟨none, none, _⟩ :: _) _; refine go_st (hk := ?_)) | (show GO _ _ _ _ _ (⟨_, some _, _⟩ :: _) _; first | refine go_in (hk := ?_) | refine go_out (hk := ?_) | refine go_void (hk := ?_)) | (show GK _ _ _ _ (blockK _ _ _); refine gk_past rfl ?_) | (show GC _ _ _ _ _ (.cond _ _ _) _; first | refine gc_yes (h1 := ?_) | refine gc_no (h1 := ?_))))
      rw [hns]
      refine gc_loop (γ := Nat × AV) (fun g => [(0, a), (1, b), (2, c), (7, g.2), (8, .int .i64 (i : Int)), (9, .int .i64 (w : Int)), (10, .int .i64 (g.1 : Int))]) (fun g => [rwF g.2 g.1 (fiL xs ws g.1), .roI a xs.length xs, .roI b ws.length ws, .roI c (blL xs ws).length (blL xs ws)]) (fun g => s' ≤ g.1 ∧ g.1 ≤ w) (fun g => w - g.1) (s', u1) ⟨Nat.le_refl _, by dsimp only; omega⟩ (hb := ?_)
      rintro ⟨k, u2⟩ ⟨hk1, hk2⟩ I2 ν2 m2 hk3
      simp only at hk1 hk2 hk3 ⊢
      (repeat (first | refine gst (hk := ?_) | (show GO _ _ _ _ _ (⟨some _, none, _⟩ :: _) _; first | refine go_op (hk := ?_) | (refine go_nw (hk := ?_); intro u; try simp only [llc, lln, lna, lza]) | (refine go_np (hk := ?_); intro id)) | (show GO _ _ _ _ _ (⟨none, none, _⟩ :: _) _; refine go_st (hk := ?_)) | (show GO _ _ _ _ _ (⟨_, some _, _⟩ :: _) _; first | refine go_in (hk := ?_) | refine go_out (hk := ?_) | refine go_void (hk := ?_)) | (show GK _ _ _ _ (blockK _ _ _); refine gk_past rfl ?_) | (show GC _ _ _ _ _ (.cond _ _ _) _; first | refine gc_yes (h1 := ?_) | refine gc_no (h1 := ?_))))
      refine gc_cond rfl (fun h4 => ?_) (fun h4 => ?_)
      · have hval : mnR xs ws s' w = fiR xs ws k := by
          rw [← mnR_mnA]; exact (g5 k hk1 (by omega)).symm
        have hfl := fiL_len xs ws k
        (repeat (first | refine gst (hk := ?_) | (show GO _ _ _ _ _ (⟨some _, none, _⟩ :: _) _; first | refine go_op (hk := ?_) | (refine go_nw (hk := ?_); intro u; try simp only [llc, lln, lna, lza]) | (refine go_np (hk := ?_); intro id)) | (show GO _ _ _ _ _ (⟨none, none, _⟩ :: _) _; refine go_st (hk := ?_)) | (show GO _ _ _ _ _ (⟨_, some _, _⟩ :: _) _; first | refine go_in (hk := ?_) | refine go_out (hk := ?_) | refine go_void (hk := ?_)) | (show GK _ _ _ _ (blockK _ _ _); refine gk_past rfl ?_) | (show GC _ _ _ _ _ (.cond _ _ _) _; first | refine gc_yes (h1 := ?_) | refine gc_no (h1 := ?_))))
        rw [hns]
        refine go_callp rfl code_spec_mean.callable (fun H hH => specMean_ok (i := s') (e := w) (hH.ints (by exact Has.auto)) (hH.ints (by exact Has.auto)) hL (by omega) (by omega) (by omega)) ?_
        rw [hval]
        refine go_new rfl (stp_bslF rfl) ?_
        intro u3
        (repeat (first | refine gst (hk := ?_) | (show GO _ _ _ _ _ (⟨some _, none, _⟩ :: _) _; first | refine go_op (hk := ?_) | (refine go_nw (hk := ?_); intro u; try simp only [llc, lln, lna, lza]) | (refine go_np (hk := ?_); intro id)) | (show GO _ _ _ _ _ (⟨none, none, _⟩ :: _) _; refine go_st (hk := ?_)) | (show GO _ _ _ _ _ (⟨_, some _, _⟩ :: _) _; first | refine go_in (hk := ?_) | refine go_out (hk := ?_) | refine go_void (hk := ?_)) | (show GK _ _ _ _ (blockK _ _ _); refine gk_past rfl ?_) | (show GC _ _ _ _ _ (.cond _ _ _) _; first | refine gc_yes (h1 := ?_) | refine gc_no (h1 := ?_))))
        refine go_new rfl (stp_appF rfl rfl (by exact Sel.auto) (by exact Has.auto) (by omega)) ?_
        intro u4
        (repeat (first | refine gst (hk := ?_) | (show GO _ _ _ _ _ (⟨some _, none, _⟩ :: _) _; first | refine go_op (hk := ?_) | (refine go_nw (hk := ?_); intro u; try simp only [llc, lln, lna, lza]) | (refine go_np (hk := ?_); intro id)) | (show GO _ _ _ _ _ (⟨none, none, _⟩ :: _) _; refine go_st (hk := ?_)) | (show GO _ _ _ _ _ (⟨_, some _, _⟩ :: _) _; first | refine go_in (hk := ?_) | refine go_out (hk := ?_) | refine go_void (hk := ?_)) | (show GK _ _ _ _ (blockK _ _ _); refine gk_past rfl ?_) | (show GC _ _ _ _ _ (.cond _ _ _) _; first | refine gc_yes (h1 := ?_) | refine gc_no (h1 := ?_))))
        exact gk_next (hk3 (k + 1, u4) ⟨by dsimp only; omega, by dsimp only; omega⟩ (by dsimp only; omega))
      · obtain rfl : k = w := by omega
        (repeat (first | refine gst (hk := ?_) | (show GO _ _ _ _ _ (⟨some _, none, _⟩ :: _) _; first | refine go_op (hk := ?_) | (refine go_nw (hk := ?_); intro u; try simp only [llc, lln, lna, lza]) | (refine go_np (hk := ?_); intro id)) | (show GO _ _ _ _ _ (⟨none, none, _⟩ :: _) _; refine go_st (hk := ?_)) | (show GO _ _ _ _ _ (⟨_, some _, _⟩ :: _) _; first | refine go_in (hk := ?_) | refine go_out (hk := ?_) | refine go_void (hk := ?_)) | (show GK _ _ _ _ (blockK _ _ _); refine gk_past rfl ?_) | (show GC _ _ _ _ _ (.cond _ _ _) _; first | refine gc_yes (h1 := ?_) | refine gc_no (h1 := ?_))))
        exact gk_next (inner u2)
  · obtain rfl : i = (blL xs ws).length := by omega
    obtain rfl := h2 rfl
    (repeat (first | refine gst (hk := ?_) | (show GO _ _ _ _ _ (⟨some _, none, _⟩ :: _) _; first | refine go_op (hk := ?_) | (refine go_nw (hk := ?_); intro u; try simp only [llc, lln, lna, lza]) | (refine go_np (hk := ?_); intro id)) | (show GO _ _ _ _ _ (⟨none, none, _⟩ :: _) _; refine go_st (hk := ?_)) | (show GO _ _ _ _ _ (⟨_, some _, _⟩ :: _) _; first | refine go_in (hk := ?_) | refine go_out (hk := ?_) | refine go_void (hk := ?_)) | (show GK _ _ _ _ (blockK _ _ _); refine gk_past rfl ?_) | (show GC _ _ _ _ _ (.cond _ _ _) _; first | refine gc_yes (h1 := ?_) | refine gc_no (h1 := ?_))))
    exact gk_ret rfl fun H' hH => hH.give (by exact Sel.auto)

theorem Loads.d_fd {xs ws : List Int} (h : Loads xs ws) {j : Nat} (hj : j < xs.length) : ∃ V : Int, (1 ≤ V ∧ V ≤ 40) ∧ FD (fiR xs ws j) V (30 * V) ∧ FD (((nth xs j : Int) : Rat) - fiR xs ws j) V (60 * V) := by
  obtain ⟨i, u, h1, h2, h3, h4⟩ := h.fit_is hj
  have hp := h.pos (i := i) (e := u) (by omega) h3
  have hf := h.fd (i := i) (e := u) (by omega) h3
  rw [← h4] at hf
  generalize sumI ws u - sumI ws i = V at *
  refine ⟨V, hp, hf, ?_⟩
  have hx := (FD.int (h.x j)).lift (m := V) (by omega)
  have := (hx.to (D' := V) (by omega)).sub hf
  exact this.mono (by omega)

structure MiFit (xs ws : List Int) (i : Nat) : Prop where
  a : FitA ((nth xs i : Int) : Rat) (fiR xs ws i)
  m : FitM (((nth xs i : Int) : Rat) - fiR xs ws i) (((nth xs i : Int) : Rat) - fiR xs ws i)
  w : FitM ((nth ws i : Int) : Rat) ((((nth xs i : Int) : Rat) - fiR xs ws i) * (((nth xs i : Int) : Rat) - fiR xs ws i))
  p : FitA (miR xs ws i) (sqM xs ws (fiR xs ws) i)

theorem Loads.mi_fit {xs ws : List Int} (h : Loads xs ws) {i : Nat} (hi : i < xs.length) : MiFit xs ws i := by
  obtain ⟨V, hV, f1, f2⟩ := h.d_fd hi
  have hx := h.x i
  have hw := h.w hi
  obtain ⟨Q, f3, hQ⟩ := h.mi_fd (t := i) (by omega)
  have fx := FD.int hx
  have fw : FD ((nth ws i : Int) : Rat) 1 5 := FD.int (by omega)
  have fdd := f2.mul f2
  have fq := fw.mul fdd
  have b1 : V * V ≤ 40 * 40 := Int.mul_le_mul hV.2 hV.2 (by omega) (by omega)
  have b2 : 60 * V * (60 * V) = 3600 * (V * V) := by grind
  have b0 : 0 ≤ V * V := Int.mul_nonneg (by omega) (by omega)
  rw [b2] at fdd fq
  generalize hVV : V * V = W at *
  have hQ1 := f3.1
  have b3 : Q * W ≤ 92000000 * 1600 := Int.mul_le_mul hQ (by omega) (by omega) (by omega)
  have b5 : 0 ≤ Q * W := Int.mul_nonneg (by omega) (by omega)
  refine ⟨fitA_of fx f1 (by omega) (by omega) (by omega), fitM_of f2 f2 (by omega) (by omega), fitM_of fw fdd (by omega) (by omega), fitA_of f3 fq ?_ ?_ ?_⟩
  · rw [show 144000 * Q * (1 * W) = 144000 * (Q * W) by grind]; omega
  · rw [show 5 * (3600 * W) * Q = 18000 * (Q * W) by grind]; omega
  · rw [show Q * (1 * W) = Q * W by grind]; omega

theorem miR_zero (xs ws : List Int) : miR xs ws 0 = ((0 : Int) : Rat) / ((1 : Int) : Rat) := by
  rw [rat_one]; rfl

theorem specMissOf_ok {H : Heap} {a b c : AV} {xs ws : List Int} (ha : Ints H a xs) (hb : Ints H b ws) (hc : Vals H c 2 xs.length (frs (fiL xs ws xs.length))) (hL : Loads xs ws) :
    ACalls Try.prog fn_spec_missOf [a, b, c] H fun r H' => r = frV (miR xs ws xs.length) ∧ H' = H := by
  refine ACalls.val ?_ rfl
  have hl := hL.2.2.1
  have hn := hL.2.2.2.2
  have hfl := fiL_len xs ws xs.length
  refine code_spec_missOf.go [.roI a xs.length xs, .roI b ws.length ws, roF c xs.length (fiL xs ws xs.length)] ⟨⟨rfl, ha⟩, ⟨rfl, hb⟩, ⟨rfl, hc⟩, trivial⟩ (by simp) ?_
  unfold mc_spec_missOf
  (repeat (first | refine gst (hk := ?_) | (with_reducible first | (refine gc_drw (h := ?_); intro _) | (refine gc_drw2 (h := ?_); intro _)) | (show GO _ _ _ _ _ (⟨some _, none, _⟩ :: _) _; first | refine go_op (hk := ?_) | (refine go_nw (hk := ?_); intro u; try simp only [llc, lln, lna, lza]) | (refine go_np (hk := ?_); intro id)) | (show GD _ _ _ _ _ _ _ (⟨some _, none, _⟩ :: _) _; first | refine gd_op (hk := ?_) | (refine gd_nw (hk := ?_); intro u; try simp only [llc, lln, lna, lza])) | (show GR _ _ _ _ _ _ (⟨some _, none, _⟩ :: _) _; refine gr_op (hk := ?_)) | (show GD2 _ _ _ _ _ _ _ _ _ _ _ _ _ _; first | refine gd2_nil rfl ?_ | refine gd2_op (hk := ?_) | (refine gd2_nw (hk := ?_); intro u; try simp only [llc, lln, lna, lza]) | refine gd2_l (hk := ?_) | refine gd2_lp (hk := ?_) | (refine gd2_newp (hk := ?_); intro id) | refine gd2_st (hk := ?_) | (refine gd2_bsl rfl rfl ?_; intro u; try simp only [llc, lln, lna, lza]) | (refine gd2_a (hk := ?_); intro u; try simp only [llc, lln, lna, lza])) | (show GO _ _ _ _ _ (⟨none, none, _⟩ :: _) _; refine go_st (hk := ?_)) | (show GD _ _ _ _ _ _ _ (⟨none, none, _⟩ :: _) _; refine gd_st (hk := ?_)) | (show GR _ _ _ _ _ _ (⟨none, none, _⟩ :: _) _; refine gr_st (hk := ?_)) | (show GO _ _ _ _ _ (⟨_, some _, _⟩ :: _) _; first | refine go_in (hk := ?_) | refine go_out (hk := ?_) | refine go_void (hk := ?_)) | (show GK _ _ _ _ (blockK _ _ _); refine gk_past rfl ?_) | (show GC _ _ _ _ _ (.cond _ _ _) _; first | refine gc_yes (h1 := ?_) | refine gc_no (h1 := ?_))))
  refine go_callp rfl code_spec_frac.callable (fun H hH => frac_ok (a := 0) (b := 1) (by omega) (by omega) (by omega)) ?_
  rw [← miR_zero xs ws]
  (repeat (first | refine gst (hk := ?_) | (with_reducible first | (refine gc_drw (h := ?_); intro _) | (refine gc_drw2 (h := ?_); intro _)) | (show GO _ _ _ _ _ (⟨some _, none, _⟩ :: _) _; first | refine go_op (hk := ?_) | (refine go_nw (hk := ?_); intro u; try simp only [llc, lln, lna, lza]) | (refine go_np (hk := ?_); intro id)) | (show GD _ _ _ _ _ _ _ (⟨some _, none, _⟩ :: _) _; first | refine gd_op (hk := ?_) | (refine gd_nw (hk := ?_); intro u; try simp only [llc, lln, lna, lza])) | (show GR _ _ _ _ _ _ (⟨some _, none, _⟩ :: _) _; refine gr_op (hk := ?_)) | (show GD2 _ _ _ _ _ _ _ _ _ _ _ _ _ _; first | refine gd2_nil rfl ?_ | refine gd2_op (hk := ?_) | (refine gd2_nw (hk := ?_); intro u; try simp only [llc, lln, lna, lza]) | refine gd2_l (hk := ?_) | refine gd2_lp (hk := ?_) | (refine gd2_newp (hk := ?_); intro id) | refine gd2_st (hk := ?_) | (refine gd2_bsl rfl rfl ?_; intro u; try simp only [llc, lln, lna, lza]) | (refine gd2_a (hk := ?_); intro u; try simp only [llc, lln, lna, lza])) | (show GO _ _ _ _ _ (⟨none, none, _⟩ :: _) _; refine go_st (hk := ?_)) | (show GD _ _ _ _ _ _ _ (⟨none, none, _⟩ :: _) _; refine gd_st (hk := ?_)) | (show GR _ _ _ _ _ _ (⟨none, none, _⟩ :: _) _; refine gr_st (hk := ?_)) | (show GO _ _ _ _ _ (⟨_, some _, _⟩ :: _) _; first | refine go_in (hk := ?_) | refine go_out (hk := ?_) | refine go_void (hk := ?_)) | (show GK _ _ _ _ (blockK _ _ _); refine gk_past rfl ?_) | (show GC _ _ _ _ _ (.cond _ _ _) _; first | refine gc_yes (h1 := ?_) | refine gc_no (h1 := ?_))))
  revert id; intro i7
  revert id; intro i6
  refine gc_up xs.length (fun i => [(0, a), (1, b), (2, c), (6, .ptr i6 0), (7, .ptr i7 0), (8, .int .i64 (i : Int))]) (fun i => [celF i7 (miR xs ws i), cel0 i6, .roI a xs.length xs, .roI b ws.length ws, roF c xs.length (fiL xs ws xs.length)]) (hb := ?_)
  intro i hi I ν m hk
  (repeat (first | refine gst (hk := ?_) | (with_reducible first | (refine gc_drw (h := ?_); intro _) | (refine gc_drw2 (h := ?_); intro _)) | (show GO _ _ _ _ _ (⟨some _, none, _⟩ :: _) _; first | refine go_op (hk := ?_) | (refine go_nw (hk := ?_); intro u; try simp only [llc, lln, lna, lza]) | (refine go_np (hk := ?_); intro id)) | (show GD _ _ _ _ _ _ _ (⟨some _, none, _⟩ :: _) _; first | refine gd_op (hk := ?_) | (refine gd_nw (hk := ?_); intro u; try simp only [llc, lln, lna, lza])) | (show GR _ _ _ _ _ _ (⟨some _, none, _⟩ :: _) _; refine gr_op (hk := ?_)) | (show GD2 _ _ _ _ _ _ _ _ _ _ _ _ _ _; first | refine gd2_nil rfl ?_ | refine gd2_op (hk := ?_) | (refine gd2_nw (hk := ?_); intro u; try simp only [llc, lln, lna, lza]) | refine gd2_l (hk := ?_) | refine gd2_lp (hk := ?_) | (refine gd2_newp (hk := ?_); intro id) | refine gd2_st (hk := ?_) | (refine gd2_bsl rfl rfl ?_; intro u; try simp only [llc, lln, lna, lza]) | (refine gd2_a (hk := ?_); intro u; try simp only [llc, lln, lna, lza])) | (show GO _ _ _ _ _ (⟨none, none, _⟩ :: _) _; refine go_st (hk := ?_)) | (show GD _ _ _ _ _ _ _ (⟨none, none, _⟩ :: _) _; refine gd_st (hk := ?_)) | (show GR _ _ _ _ _ _ (⟨none, none, _⟩ :: _) _; refine gr_st (hk := ?_)) | (show GO _ _ _ _ _ (⟨_, some _, _⟩ :: _) _; first | refine go_in (hk := ?_) | refine go_out (hk := ?_) | refine go_void (hk := ?_)) | (show GK _ _ _ _ (blockK _ _ _); refine gk_past rfl ?_) | (show GC _ _ _ _ _ (.cond _ _ _) _; first | refine gc_yes (h1 := ?_) | refine gc_no (h1 := ?_))))
  refine gc_cond rfl (fun h => ?_) (fun h => ?_)
  · obtain ⟨m1, m2, m3, m4⟩ := hL.mi_fit (i := i) (by omega)
    have hx := hL.x i
    have hw := hL.w (i := i) (by omega)
    have hk1 := hk (by omega)
    (repeat (first | refine gst (hk := ?_) | (with_reducible first | (refine gc_drw (h := ?_); intro _) | (refine gc_drw2 (h := ?_); intro _)) | (show GO _ _ _ _ _ (⟨some _, none, _⟩ :: _) _; first | refine go_op (hk := ?_) | (refine go_nw (hk := ?_); intro u; try simp only [llc, lln, lna, lza]) | (refine go_np (hk := ?_); intro id)) | (show GD _ _ _ _ _ _ _ (⟨some _, none, _⟩ :: _) _; first | refine gd_op (hk := ?_) | (refine gd_nw (hk := ?_); intro u; try simp only [llc, lln, lna, lza])) | (show GR _ _ _ _ _ _ (⟨some _, none, _⟩ :: _) _; refine gr_op (hk := ?_)) | (show GD2 _ _ _ _ _ _ _ _ _ _ _ _ _ _; first | refine gd2_nil rfl ?_ | refine gd2_op (hk := ?_) | (refine gd2_nw (hk := ?_); intro u; try simp only [llc, lln, lna, lza]) | refine gd2_l (hk := ?_) | refine gd2_lp (hk := ?_) | (refine gd2_newp (hk := ?_); intro id) | refine gd2_st (hk := ?_) | (refine gd2_bsl rfl rfl ?_; intro u; try simp only [llc, lln, lna, lza]) | (refine gd2_a (hk := ?_); intro u; try simp only [llc, lln, lna, lza])) | (show GO _ _ _ _ _ (⟨none, none, _⟩ :: _) _; refine go_st (hk := ?_)) | (show GD _ _ _ _ _ _ _ (⟨none, none, _⟩ :: _) _; refine gd_st (hk := ?_)) | (show GR _ _ _ _ _ _ (⟨none, none, _⟩ :: _) _; refine gr_st (hk := ?_)) | (show GO _ _ _ _ _ (⟨_, some _, _⟩ :: _) _; first | refine go_in (hk := ?_) | refine go_out (hk := ?_) | refine go_void (hk := ?_)) | (show GK _ _ _ _ (blockK _ _ _); refine gk_past rfl ?_) | (show GC _ _ _ _ _ (.cond _ _ _) _; first | refine gc_yes (h1 := ?_) | refine gc_no (h1 := ?_))))
    refine gc_drw4n (qtTab [(fn_spec_frac, dFrac), (fn_spec_minus, dMinus)]) (fun H0 H hH0 hg => qtTab_cons (dFrac_ok H) (qtTab_cons (dMinus_ok H) qtTab_nil)) (fun H0 hH0 => ?_)
    repeat (refine gd4_op (hk := ?_))
    refine gd4_ld (u := a.elem i) rfl (stp_ld (i := i)) ?_
    refine gd4_call rfl (dFrac_is (a := nth xs i) (b := 1) (by omega) (by omega) (by omega)) ?_
    rw [rat_one]
    repeat (refine gd4_op (hk := ?_))
    refine gd4_ld (u := c.elem i) rfl (stp_ldF (i := i) rfl (by exact Has.auto) (by omega) (by omega)) ?_
    rw [nth_fiL (by omega)]
    refine gd4_call rfl (fam2_is (F := FitA) m1) ?_
    refine gd4_new ?_
    refine gd4_st rfl stp_stag ?_
    have b1 := vid_old (v := a) (es := 1) (n := xs.length) (cs := ints xs) (i := i) hH0 (by exact Has.auto)
    have b2 := vid_old (v := c) (es := 2) (n := xs.length) (cs := frs (fiL xs ws xs.length)) (i := i) hH0 (by exact Has.auto)
    refine gd4_nil (pairs_on rfl rfl b1 (pairs_on rfl rfl b2 trivial)) (by simp [vid]) ?_
    (repeat (first | refine gst (hk := ?_) | (with_reducible first | (refine gc_drw (h := ?_); intro _) | (refine gc_drw2 (h := ?_); intro _)) | (show GO _ _ _ _ _ (⟨some _, none, _⟩ :: _) _; first | refine go_op (hk := ?_) | (refine go_nw (hk := ?_); intro u; try simp only [llc, lln, lna, lza]) | (refine go_np (hk := ?_); intro id)) | (show GD _ _ _ _ _ _ _ (⟨some _, none, _⟩ :: _) _; first | refine gd_op (hk := ?_) | (refine gd_nw (hk := ?_); intro u; try simp only [llc, lln, lna, lza])) | (show GR _ _ _ _ _ _ (⟨some _, none, _⟩ :: _) _; refine gr_op (hk := ?_)) | (show GD2 _ _ _ _ _ _ _ _ _ _ _ _ _ _; first | refine gd2_nil rfl ?_ | refine gd2_op (hk := ?_) | (refine gd2_nw (hk := ?_); intro u; try simp only [llc, lln, lna, lza]) | refine gd2_l (hk := ?_) | refine gd2_lp (hk := ?_) | (refine gd2_newp (hk := ?_); intro id) | refine gd2_st (hk := ?_) | (refine gd2_bsl rfl rfl ?_; intro u; try simp only [llc, lln, lna, lza]) | (refine gd2_a (hk := ?_); intro u; try simp only [llc, lln, lna, lza])) | (show GO _ _ _ _ _ (⟨none, none, _⟩ :: _) _; refine go_st (hk := ?_)) | (show GD _ _ _ _ _ _ _ (⟨none, none, _⟩ :: _) _; refine gd_st (hk := ?_)) | (show GR _ _ _ _ _ _ (⟨none, none, _⟩ :: _) _; refine gr_st (hk := ?_)) | (show GO _ _ _ _ _ (⟨_, some _, _⟩ :: _) _; first | refine go_in (hk := ?_) | refine go_out (hk := ?_) | refine go_void (hk := ?_)) | (show GK _ _ _ _ (blockK _ _ _); refine gk_past rfl ?_) | (show GC _ _ _ _ _ (.cond _ _ _) _; first | refine gc_yes (h1 := ?_) | refine gc_no (h1 := ?_))))
    refine gc_drc (fun _ => qtTab [(fn_spec_frac, dFrac), (fn_spec_times, dTimes), (fn_spec_plus, dPlus)]) (fun H _ => qtTab_cons (dFrac_ok H) (qtTab_cons (dTimes_ok H) (qtTab_cons (dPlus_ok H) qtTab_nil))) (fun H1 => ?_)
    (repeat (first | refine gst (hk := ?_) | (with_reducible first | (refine gc_drw (h := ?_); intro _) | (refine gc_drw2 (h := ?_); intro _)) | (show GO _ _ _ _ _ (⟨some _, none, _⟩ :: _) _; first | refine go_op (hk := ?_) | (refine go_nw (hk := ?_); intro u; try simp only [llc, lln, lna, lza]) | (refine go_np (hk := ?_); intro id)) | (show GD _ _ _ _ _ _ _ (⟨some _, none, _⟩ :: _) _; first | refine gd_op (hk := ?_) | (refine gd_nw (hk := ?_); intro u; try simp only [llc, lln, lna, lza])) | (show GR _ _ _ _ _ _ (⟨some _, none, _⟩ :: _) _; refine gr_op (hk := ?_)) | (show GD2 _ _ _ _ _ _ _ _ _ _ _ _ _ _; first | refine gd2_nil rfl ?_ | refine gd2_op (hk := ?_) | (refine gd2_nw (hk := ?_); intro u; try simp only [llc, lln, lna, lza]) | refine gd2_l (hk := ?_) | refine gd2_lp (hk := ?_) | (refine gd2_newp (hk := ?_); intro id) | refine gd2_st (hk := ?_) | (refine gd2_bsl rfl rfl ?_; intro u; try simp only [llc, lln, lna, lza]) | (refine gd2_a (hk := ?_); intro u; try simp only [llc, lln, lna, lza])) | (show GO _ _ _ _ _ (⟨none, none, _⟩ :: _) _; refine go_st (hk := ?_)) | (show GD _ _ _ _ _ _ _ (⟨none, none, _⟩ :: _) _; refine gd_st (hk := ?_)) | (show GR _ _ _ _ _ _ (⟨none, none, _⟩ :: _) _; refine gr_st (hk := ?_)) | (show GO _ _ _ _ _ (⟨_, some _, _⟩ :: _) _; first | refine go_in (hk := ?_) | refine go_out (hk := ?_) | refine go_void (hk := ?_)) | (show GK _ _ _ _ (blockK _ _ _); refine gk_past rfl ?_) | (show GC _ _ _ _ _ (.cond _ _ _) _; first | refine gc_yes (h1 := ?_) | refine gc_no (h1 := ?_))))
    refine gr_call rfl (dFrac_is (a := nth ws i) (b := 1) (by omega) (by omega) (by omega)) ?_
    rw [rat_one]
    (repeat (first | refine gst (hk := ?_) | (with_reducible first | (refine gc_drw (h := ?_); intro _) | (refine gc_drw2 (h := ?_); intro _)) | (show GO _ _ _ _ _ (⟨some _, none, _⟩ :: _) _; first | refine go_op (hk := ?_) | (refine go_nw (hk := ?_); intro u; try simp only [llc, lln, lna, lza]) | (refine go_np (hk := ?_); intro id)) | (show GD _ _ _ _ _ _ _ (⟨some _, none, _⟩ :: _) _; first | refine gd_op (hk := ?_) | (refine gd_nw (hk := ?_); intro u; try simp only [llc, lln, lna, lza])) | (show GR _ _ _ _ _ _ (⟨some _, none, _⟩ :: _) _; refine gr_op (hk := ?_)) | (show GD2 _ _ _ _ _ _ _ _ _ _ _ _ _ _; first | refine gd2_nil rfl ?_ | refine gd2_op (hk := ?_) | (refine gd2_nw (hk := ?_); intro u; try simp only [llc, lln, lna, lza]) | refine gd2_l (hk := ?_) | refine gd2_lp (hk := ?_) | (refine gd2_newp (hk := ?_); intro id) | refine gd2_st (hk := ?_) | (refine gd2_bsl rfl rfl ?_; intro u; try simp only [llc, lln, lna, lza]) | (refine gd2_a (hk := ?_); intro u; try simp only [llc, lln, lna, lza])) | (show GO _ _ _ _ _ (⟨none, none, _⟩ :: _) _; refine go_st (hk := ?_)) | (show GD _ _ _ _ _ _ _ (⟨none, none, _⟩ :: _) _; refine gd_st (hk := ?_)) | (show GR _ _ _ _ _ _ (⟨none, none, _⟩ :: _) _; refine gr_st (hk := ?_)) | (show GO _ _ _ _ _ (⟨_, some _, _⟩ :: _) _; first | refine go_in (hk := ?_) | refine go_out (hk := ?_) | refine go_void (hk := ?_)) | (show GK _ _ _ _ (blockK _ _ _); refine gk_past rfl ?_) | (show GC _ _ _ _ _ (.cond _ _ _) _; first | refine gc_yes (h1 := ?_) | refine gc_no (h1 := ?_))))
    refine gr_call rfl (fam2_is (F := FitM) m2) ?_
    refine gr_call rfl (fam2_is (F := FitM) m3) ?_
    refine gr_call rfl (fam2_is (F := FitA) m4) ?_
    rw [show miR xs ws i + ((nth ws i : Int) : Rat) * ((((nth xs i : Int) : Rat) - fiR xs ws i) * (((nth xs i : Int) : Rat) - fiR xs ws i)) = miR xs ws (i + 1) from rfl]
    (repeat (first | refine gst (hk := ?_) | (with_reducible first | (refine gc_drw (h := ?_); intro _) | (refine gc_drw2 (h := ?_); intro _)) | (show GO _ _ _ _ _ (⟨some _, none, _⟩ :: _) _; first | refine go_op (hk := ?_) | (refine go_nw (hk := ?_); intro u; try simp only [llc, lln, lna, lza]) | (refine go_np (hk := ?_); intro id)) | (show GD _ _ _ _ _ _ _ (⟨some _, none, _⟩ :: _) _; first | refine gd_op (hk := ?_) | (refine gd_nw (hk := ?_); intro u; try simp only [llc, lln, lna, lza])) | (show GR _ _ _ _ _ _ (⟨some _, none, _⟩ :: _) _; refine gr_op (hk := ?_)) | (show GD2 _ _ _ _ _ _ _ _ _ _ _ _ _ _; first | refine gd2_nil rfl ?_ | refine gd2_op (hk := ?_) | (refine gd2_nw (hk := ?_); intro u; try simp only [llc, lln, lna, lza]) | refine gd2_l (hk := ?_) | refine gd2_lp (hk := ?_) | (refine gd2_newp (hk := ?_); intro id) | refine gd2_st (hk := ?_) | (refine gd2_bsl rfl rfl ?_; intro u; try simp only [llc, lln, lna, lza]) | (refine gd2_a (hk := ?_); intro u; try simp only [llc, lln, lna, lza])) | (show GO _ _ _ _ _ (⟨none, none, _⟩ :: _) _; refine go_st (hk := ?_)) | (show GD _ _ _ _ _ _ _ (⟨none, none, _⟩ :: _) _; refine gd_st (hk := ?_)) | (show GR _ _ _ _ _ _ (⟨none, none, _⟩ :: _) _; refine gr_st (hk := ?_)) | (show GO _ _ _ _ _ (⟨_, some _, _⟩ :: _) _; first | refine go_in (hk := ?_) | refine go_out (hk := ?_) | refine go_void (hk := ?_)) | (show GK _ _ _ _ (blockK _ _ _); refine gk_past rfl ?_) | (show GC _ _ _ _ _ (.cond _ _ _) _; first | refine gc_yes (h1 := ?_) | refine gc_no (h1 := ?_))))
    exact gk_next hk1
  · obtain rfl : i = xs.length := by omega
    (repeat (first | refine gst (hk := ?_) | (with_reducible first | (refine gc_drw (h := ?_); intro _) | (refine gc_drw2 (h := ?_); intro _)) | (show GO _ _ _ _ _ (⟨some _, none, _⟩ :: _) _; first | refine go_op (hk := ?_) | (refine go_nw (hk := ?_); intro u; try simp only [llc, lln, lna, lza]) | (refine go_np (hk := ?_); intro id)) | (show GD _ _ _ _ _ _ _ (⟨some _, none, _⟩ :: _) _; first | refine gd_op (hk := ?_) | (refine gd_nw (hk := ?_); intro u; try simp only [llc, lln, lna, lza])) | (show GR _ _ _ _ _ _ (⟨some _, none, _⟩ :: _) _; refine gr_op (hk := ?_)) | (show GD2 _ _ _ _ _ _ _ _ _ _ _ _ _ _; first | refine gd2_nil rfl ?_ | refine gd2_op (hk := ?_) | (refine gd2_nw (hk := ?_); intro u; try simp only [llc, lln, lna, lza]) | refine gd2_l (hk := ?_) | refine gd2_lp (hk := ?_) | (refine gd2_newp (hk := ?_); intro id) | refine gd2_st (hk := ?_) | (refine gd2_bsl rfl rfl ?_; intro u; try simp only [llc, lln, lna, lza]) | (refine gd2_a (hk := ?_); intro u; try simp only [llc, lln, lna, lza])) | (show GO _ _ _ _ _ (⟨none, none, _⟩ :: _) _; refine go_st (hk := ?_)) | (show GD _ _ _ _ _ _ _ (⟨none, none, _⟩ :: _) _; refine gd_st (hk := ?_)) | (show GR _ _ _ _ _ _ (⟨none, none, _⟩ :: _) _; refine gr_st (hk := ?_)) | (show GO _ _ _ _ _ (⟨_, some _, _⟩ :: _) _; first | refine go_in (hk := ?_) | refine go_out (hk := ?_) | refine go_void (hk := ?_)) | (show GK _ _ _ _ (blockK _ _ _); refine gk_past rfl ?_) | (show GC _ _ _ _ _ (.cond _ _ _) _; first | refine gc_yes (h1 := ?_) | refine gc_no (h1 := ?_))))
    exact gk_rets (rvs_c rfl (by exact Sel.auto) rfl rfl rvs_nil) fun H' hH => ⟨rfl, hH.leE⟩

theorem specTurned_ok {H : Heap} {a : AV} {xs : List Int} (ha : Ints H a xs) (hl : xs.length ≤ 1000000) :
    ACalls Try.prog fn_spec_turned [a] H fun r H' => OwnI H H' r xs.reverse ∧ Le H H' := by
  refine code_spec_turned.go [.roI a xs.length xs] ⟨⟨rfl, ha⟩, trivial⟩ (by simp) ?_
  unfold mc_spec_turned
  (repeat (first | refine gst (hk := ?_) | (show GO _ _ _ _ _ (⟨some _, none, _⟩ :: _) _; first | refine go_op (hk := ?_) | (refine go_nw (hk := ?_); intro u; try simp only [llc, lln, lna, lza]) | (refine go_np (hk := ?_); intro id)) | (show GO _ _ _ _ _ (⟨none, none, _⟩ :: _) _; refine go_st (hk := ?_)) | (show GO _ _ _ _ _ (⟨_, some _, _⟩ :: _) _; first | refine go_in (hk := ?_) | refine go_out (hk := ?_) | refine go_void (hk := ?_)) | (show GK _ _ _ _ (blockK _ _ _); refine gk_past rfl ?_) | (show GC _ _ _ _ _ (.cond _ _ _) _; first | refine gc_yes (h1 := ?_) | refine gc_no (h1 := ?_))))
  refine gc_upv xs.length (fun i v => [(0, a), (3, v), (4, .int .i64 ((xs.length : Int) - 1 - i))]) (fun i v => [.rwI v i (xs.reverse.take i), .roI a xs.length xs]) u (hb := ?_)
  intro i v hi I ν m hn
  (repeat (first | refine gst (hk := ?_) | (show GO _ _ _ _ _ (⟨some _, none, _⟩ :: _) _; first | refine go_op (hk := ?_) | (refine go_nw (hk := ?_); intro u; try simp only [llc, lln, lna, lza]) | (refine go_np (hk := ?_); intro id)) | (show GO _ _ _ _ _ (⟨none, none, _⟩ :: _) _; refine go_st (hk := ?_)) | (show GO _ _ _ _ _ (⟨_, some _, _⟩ :: _) _; first | refine go_in (hk := ?_) | refine go_out (hk := ?_) | refine go_void (hk := ?_)) | (show GK _ _ _ _ (blockK _ _ _); refine gk_past rfl ?_) | (show GC _ _ _ _ _ (.cond _ _ _) _; first | refine gc_yes (h1 := ?_) | refine gc_no (h1 := ?_))))
  refine gc_cond rfl (fun h => ?_) (fun h => ?_)
  · have e : ((xs.length : Int) - 1 - i) = ((xs.length - 1 - i : Nat) : Int) := by omega
    rw [e]
    (repeat (first | refine gst (hk := ?_) | (show GO _ _ _ _ _ (⟨some _, none, _⟩ :: _) _; first | refine go_op (hk := ?_) | (refine go_nw (hk := ?_); intro u; try simp only [llc, lln, lna, lza]) | (refine go_np (hk := ?_); intro id)) | (show GO _ _ _ _ _ (⟨none, none, _⟩ :: _) _; refine go_st (hk := ?_)) | (show GO _ _ _ _ _ (⟨_, some _, _⟩ :: _) _; first | refine go_in (hk := ?_) | refine go_out (hk := ?_) | refine go_void (hk := ?_)) | (show GK _ _ _ _ (blockK _ _ _); refine gk_past rfl ?_) | (show GC _ _ _ _ _ (.cond _ _ _) _; first | refine gc_yes (h1 := ?_) | refine gc_no (h1 := ?_))))
    have e2 : xs.reverse.take (i + 1) = xs.reverse.take i ++ [nth xs (xs.length - 1 - i)] := by
      rw [take_snoc (by simp; omega)]
      congr 2
      rw [nth_of (by simp; omega), nth_of (by omega), List.getElem_reverse]
    have hk := hn (by omega) u
    rw [e2] at hk
    exact gk_next hk
  · (repeat (first | refine gst (hk := ?_) | (show GO _ _ _ _ _ (⟨some _, none, _⟩ :: _) _; first | refine go_op (hk := ?_) | (refine go_nw (hk := ?_); intro u; try simp only [llc, lln, lna, lza]) | (refine go_np (hk := ?_); intro id)) | (show GO _ _ _ _ _ (⟨none, none, _⟩ :: _) _; refine go_st (hk := ?_)) | (show GO _ _ _ _ _ (⟨_, some _, _⟩ :: _) _; first | refine go_in (hk := ?_) | refine go_out (hk := ?_) | refine go_void (hk := ?_)) | (show GK _ _ _ _ (blockK _ _ _); refine gk_past rfl ?_) | (show GC _ _ _ _ _ (.cond _ _ _) _; first | refine gc_yes (h1 := ?_) | refine gc_no (h1 := ?_))))
    have : i = xs.length := by omega
    subst this
    refine gk_ret rfl fun H' hH => ?_
    have e : xs.reverse.take xs.length = xs.reverse := List.take_of_length_le (by simp)
    rw [e] at hH
    have := hH.give .head
    unfold OwnI
    rw [List.length_reverse]
    exact this

theorem Loads.take {xs ws : List Int} (h : Loads xs ws) {k : Nat} (h1 : 1 ≤ k) (h2 : k ≤ xs.length) : Loads (xs.take k) (ws.take k) := by
  obtain ⟨g1, g2, g3, g4, g5⟩ := h
  exact ⟨fun w hw => g1 w (List.mem_of_mem_take hw), fun x hx => g2 x (List.mem_of_mem_take hx), by rw [List.length_take, List.length_take]; omega, by rw [List.length_take]; omega, by rw [List.length_take]; omega⟩

theorem Loads.rest {xs ws : List Int} (h : Loads xs ws) {k : Nat} (h2 : k < xs.length) : Loads (xs.drop k).reverse (ws.drop k).reverse := by
  obtain ⟨g1, g2, g3, g4, g5⟩ := h
  exact ⟨fun w hw => g1 w (List.mem_of_mem_drop (List.mem_reverse.1 hw)), fun x hx => g2 x (List.mem_of_mem_drop (List.mem_reverse.1 hx)), by simp only [List.length_reverse, List.length_drop]; omega, by simp only [List.length_reverse, List.length_drop]; omega, by simp only [List.length_reverse, List.length_drop]; omega⟩

noncomputable def miE (xs ws : List Int) : Rat := miR xs ws xs.length

theorem miE_nil (ws : List Int) : miE [] ws = ((0 : Int) : Rat) := rfl

noncomputable def ptR (xs ws : List Int) (k : Nat) : Rat := miE (xs.take k) (ws.take k) + miE (xs.drop k).reverse (ws.drop k).reverse

theorem sumL_app' : ∀ l m : List Int, sumL (l ++ m) = sumL l + sumL m
  | [], m => by simp [sumL]
  | x :: l, m => by rw [List.cons_append, sumL, sumL_app' l m, sumL]; omega

theorem sumL_rev' : ∀ l : List Int, sumL l.reverse = sumL l
  | [] => rfl
  | x :: l => by rw [List.reverse_cons, sumL_app', sumL_rev' l]; simp only [sumL]; omega

theorem cube_lim {P : Nat} (h : P ^ 3 ≤ 3 ^ 40) : P ≤ 2299999 := by
  rcases Nat.lt_or_ge P 2300000 with g | g
  · omega
  · exfalso
    have g1 := Nat.pow_le_pow_left g 3
    have g3 : (2300000 : Nat) ^ 3 > 3 ^ 40 := by decide
    omega

theorem sumW_pos {ws : List Int} (h : ∀ w ∈ ws, 1 ≤ w ∧ w ≤ 5) : 0 ≤ sumL ws ∧ sumL ws ≤ 5 * (ws.length : Int) := by
  induction ws with
  | nil => simp [sumL]
  | cons w l ih =>
    have h1 := h w (by simp)
    have h2 := ih fun x hx => h x (by simp [hx])
    simp only [sumL, List.length_cons]; omega

theorem Loads.miE_end {xs ws : List Int} (h : (xs = [] ∧ ws = []) ∨ Loads xs ws) : ∃ P : Nat, FD (miE xs ws) (P : Int) (144000 * (P : Int)) ∧ P ^ 3 ≤ 3 ^ (sumL ws).toNat := by
  rcases h with ⟨rfl, rfl⟩ | h
  · exact ⟨1, ⟨by omega, 0, by rw [miE_nil]; simp, by omega, by omega⟩, by simp [sumL]⟩
  · exact h.mi_end

theorem Loads.two {xs ws : List Int} (h : Loads xs ws) {k : Nat} (hk : k ≤ xs.length) : ((xs.take k = [] ∧ ws.take k = []) ∨ Loads (xs.take k) (ws.take k)) ∧ (((xs.drop k).reverse = [] ∧ (ws.drop k).reverse = []) ∨ Loads (xs.drop k).reverse (ws.drop k).reverse) := by
  constructor
  · rcases Nat.eq_zero_or_pos k with rfl | h0
    · exact .inl ⟨rfl, rfl⟩
    · exact .inr (h.take h0 hk)
  · rcases Nat.lt_or_ge k xs.length with h0 | h0
    · exact .inr (h.rest h0)
    · have := h.2.2.1
      exact .inl ⟨by rw [List.drop_eq_nil_of_le h0]; rfl, by rw [List.drop_eq_nil_of_le (by omega)]; rfl⟩

theorem Loads.pt_fd {xs ws : List Int} (h : Loads xs ws) {k : Nat} (hk : k ≤ xs.length) :
    ∃ P Q : Nat, FD (miE (xs.take k) (ws.take k)) (P : Int) (144000 * (P : Int)) ∧ FD (miE (xs.drop k).reverse (ws.drop k).reverse) (Q : Int) (144000 * (Q : Int)) ∧ P * Q ≤ 2299999 ∧ P ≤ 2299999 ∧ Q ≤ 2299999 ∧ FD (ptR xs ws k) ((P * Q : Nat) : Int) (288000 * ((P * Q : Nat) : Int)) := by
  obtain ⟨t1, t2⟩ := h.two hk
  obtain ⟨P, f1, p1⟩ := Loads.miE_end t1
  obtain ⟨Q, f2, p2⟩ := Loads.miE_end t2
  have hs : sumL (ws.take k) + sumL (ws.drop k).reverse = sumL ws := by
    rw [sumL_rev', ← sumL_app', List.take_append_drop]
  have s1 := sumW_pos (ws := ws.take k) fun w hw => h.1 w (List.mem_of_mem_take hw)
  have s2 := sumW_pos (ws := (ws.drop k).reverse) fun w hw => h.1 w (List.mem_of_mem_drop (List.mem_reverse.1 hw))
  have s3 := sumW_pos h.1
  have hn := h.2.2.2.2
  have hl := h.2.2.1
  have m : (P * Q) ^ 3 ≤ 3 ^ 40 := by
    rw [Nat.mul_pow]
    refine Nat.le_trans (Nat.mul_le_mul p1 p2) ?_
    rw [← Nat.pow_add]
    exact Nat.pow_le_pow_right (by omega) (by omega)
  have q1 : P ^ 3 ≤ 3 ^ 40 := Nat.le_trans p1 (Nat.pow_le_pow_right (by omega) (by omega))
  have q2 : Q ^ 3 ≤ 3 ^ 40 := Nat.le_trans p2 (Nat.pow_le_pow_right (by omega) (by omega))
  refine ⟨P, Q, f1, f2, cube_lim m, cube_lim q1, cube_lim q2, ?_⟩
  have := fd_sum f1 f2
  exact (this.to (D' := ((P * Q : Nat) : Int)) (by rw [Int.natCast_mul])).mono (by rw [Int.natCast_mul]; grind)

theorem Loads.pt_fit {xs ws : List Int} (h : Loads xs ws) {k j : Nat} (hk : k ≤ xs.length) (hj : j ≤ xs.length) : FitA (ptR xs ws k) (ptR xs ws j) := by
  obtain ⟨P, Q, _, _, b1, _, _, f1⟩ := h.pt_fd hk
  obtain ⟨P', Q', _, _, b2, _, _, f2⟩ := h.pt_fd hj
  have m := Nat.mul_le_mul b1 b2
  generalize P * Q = D at *
  generalize P' * Q' = E at *
  have e : (D : Int) * (E : Int) = ((D * E : Nat) : Int) := by rw [Int.natCast_mul]
  refine fitA_of f1 f2 ?_ ?_ (by rw [e]; omega)
  · rw [Int.mul_assoc, e]; omega
  · rw [Int.mul_assoc, Int.mul_comm (E : Int), e]; omega

structure PtFit (xs ws : List Int) (k : Nat) : Prop where
  a : FitA ((0 : Int) : Rat) (miE (xs.take k) (ws.take k))
  b : FitA ((0 : Int) : Rat) (miE (xs.drop k).reverse (ws.drop k).reverse)
  c : FitA (((0 : Int) : Rat) + miE (xs.take k) (ws.take k)) (miE (xs.drop k).reverse (ws.drop k).reverse)

theorem Loads.pt_fits {xs ws : List Int} (h : Loads xs ws) {k : Nat} (hk : k ≤ xs.length) : PtFit xs ws k := by
  obtain ⟨P, Q, f1, f2, b1, b2, b3, _⟩ := h.pt_fd hk
  have z : FD ((0 : Int) : Rat) 1 0 := FD.int (by omega)
  have e : (P : Int) * (Q : Int) = ((P * Q : Nat) : Int) := by rw [Int.natCast_mul]
  refine ⟨fitA_of z f1 (by omega) (by omega) (by omega), fitA_of z f2 (by omega) (by omega) (by omega), ?_⟩
  rw [show ((0 : Int) : Rat) + miE (xs.take k) (ws.take k) = miE (xs.take k) (ws.take k) by rw [intc0]; grind]
  refine fitA_of f1 f2 ?_ ?_ (by rw [e]; omega)
  · rw [Int.mul_assoc, e]; omega
  · rw [Int.mul_assoc, Int.mul_comm (Q : Int), e]; omega

theorem specRiseTo_ok {H : Heap} {a b : AV} {xs ws : List Int} {k : Nat} (ha : Ints H a xs) (hb : Ints H b ws) (hL : Loads xs ws) (hk : k ≤ xs.length) :
    ACalls Try.prog fn_spec_riseTo [a, b, .int .i64 (k : Int)] H fun r H' => r = frV (ptR xs ws k) ∧ H' = H := by
  refine ACalls.val ?_ rfl
  have hl := hL.2.2.1
  have hn := hL.2.2.2.2
  obtain ⟨t1, t2, t3⟩ := hL.pt_fits hk
  refine code_spec_riseTo.go [.roI a xs.length xs, .roI b ws.length ws] ⟨⟨rfl, ha⟩, ⟨rfl, hb⟩, trivial⟩ (by simp) ?_
  unfold mc_spec_riseTo
  have ld : (xs.drop k).length = xs.length - k := List.length_drop ..
  have lw : (ws.drop k).length = ws.length - k := List.length_drop ..
  have lt : (xs.take k).length = k := by rw [List.length_take]; omega
  have lr : (xs.drop k).reverse.length = xs.length - k := by rw [List.length_reverse, ld]
  (repeat (first | refine gst (hk := ?_) | (show GO _ _ _ _ _ (⟨some _, none, .call _ _⟩ :: _) _; first | (refine go_calln rfl code_spec_turned.callable (fun H hH => specTurned_ok (hH.ints (by exact Has.auto)) (by omega)) ?_; intro u) | (refine go_calln rfl code_spec_pool.callable (fun H hH => specPool_ok (hH.ints (by exact Has.auto)) (hH.ints (by exact Has.auto)) (by assumption)) ?_; intro u) | (refine go_calln rfl code_spec_spreadOut.callable (fun H hH => specSpread_ok (hH.ints (by exact Has.auto)) (hH.ints (by exact Has.auto)) (hH.ints (by exact Has.auto)) (by assumption)) ?_; intro u) | (refine go_callp rfl code_spec_missOf.callable (fun H hH => specMissOf_ok (hH.ints (by exact Has.auto)) (hH.ints (by exact Has.auto)) (hH.valsA (by exact Has.auto)) (by assumption)) ?_)) | (show GO _ _ _ _ _ (⟨some _, none, _⟩ :: _) _; first | refine go_op (hk := ?_) | (refine go_nw (hk := ?_); intro u; try simp only [llc, lln, lna, lza]) | (refine go_np (hk := ?_); intro id)) | (show GO _ _ _ _ _ (⟨none, none, _⟩ :: _) _; refine go_st (hk := ?_)) | (show GO _ _ _ _ _ (⟨_, some _, _⟩ :: _) _; first | refine go_in (hk := ?_) | refine go_out (hk := ?_) | refine go_void (hk := ?_)) | (show GK _ _ _ _ (blockK _ _ _); refine gk_past rfl ?_) | (show GC _ _ _ _ _ (.cond _ _ _) _; first | refine gc_yes (h1 := ?_) | refine gc_no (h1 := ?_))))
  revert u; intro u8
  rename_i u7
  refine go_callp rfl code_spec_frac.callable (fun H hH => frac_ok (a := 0) (b := 1) (by omega) (by omega) (by omega)) ?_
  rw [rat_one]
  (repeat (first | refine gst (hk := ?_) | (show GO _ _ _ _ _ (⟨some _, none, .call _ _⟩ :: _) _; first | (refine go_calln rfl code_spec_turned.callable (fun H hH => specTurned_ok (hH.ints (by exact Has.auto)) (by omega)) ?_; intro u) | (refine go_calln rfl code_spec_pool.callable (fun H hH => specPool_ok (hH.ints (by exact Has.auto)) (hH.ints (by exact Has.auto)) (by assumption)) ?_; intro u) | (refine go_calln rfl code_spec_spreadOut.callable (fun H hH => specSpread_ok (hH.ints (by exact Has.auto)) (hH.ints (by exact Has.auto)) (hH.ints (by exact Has.auto)) (by assumption)) ?_; intro u) | (refine go_callp rfl code_spec_missOf.callable (fun H hH => specMissOf_ok (hH.ints (by exact Has.auto)) (hH.ints (by exact Has.auto)) (hH.valsA (by exact Has.auto)) (by assumption)) ?_)) | (show GO _ _ _ _ _ (⟨some _, none, _⟩ :: _) _; first | refine go_op (hk := ?_) | (refine go_nw (hk := ?_); intro u; try simp only [llc, lln, lna, lza]) | (refine go_np (hk := ?_); intro id)) | (show GO _ _ _ _ _ (⟨none, none, _⟩ :: _) _; refine go_st (hk := ?_)) | (show GO _ _ _ _ _ (⟨_, some _, _⟩ :: _) _; first | refine go_in (hk := ?_) | refine go_out (hk := ?_) | refine go_void (hk := ?_)) | (show GK _ _ _ _ (blockK _ _ _); refine gk_past rfl ?_) | (show GC _ _ _ _ _ (.cond _ _ _) _; first | refine gc_yes (h1 := ?_) | refine gc_no (h1 := ?_))))
  revert id; intro i9
  revert id; intro i6
  refine gc_cut (γ := Rat) (fun _ => [(0, a), (1, b), (2, .int .i64 (k : Int)), (6, .ptr i6 0), (8, u8), (9, .ptr i9 0)]) (fun q => [celF i9 q, cel0 i6, .rwI u8 (xs.drop k).reverse.length (xs.drop k).reverse, .roI a xs.length xs, .roI b ws.length ws]) (fun q => q + miE (xs.drop k).reverse (ws.drop k).reverse = ptR xs ws k ∧ (k < xs.length → FitA q (miE (xs.drop k).reverse (ws.drop k).reverse))) rfl ?_ ?_
  · refine gc_cond rfl (fun h => ?_) (fun h => ?_)
    · have hL1 : Loads (xs.take k) (ws.take k) := hL.take (by omega) hk
      (repeat (first | refine gst (hk := ?_) | (show GO _ _ _ _ _ (⟨some _, none, .call _ _⟩ :: _) _; first | (refine go_calln rfl code_spec_turned.callable (fun H hH => specTurned_ok (hH.ints (by exact Has.auto)) (by omega)) ?_; intro u) | (refine go_calln rfl code_spec_pool.callable (fun H hH => specPool_ok (hH.ints (by exact Has.auto)) (hH.ints (by exact Has.auto)) (by assumption)) ?_; intro u) | (refine go_calln rfl code_spec_spreadOut.callable (fun H hH => specSpread_ok (hH.ints (by exact Has.auto)) (hH.ints (by exact Has.auto)) (hH.ints (by exact Has.auto)) (by assumption)) ?_; intro u) | (refine go_callp rfl code_spec_missOf.callable (fun H hH => specMissOf_ok (hH.ints (by exact Has.auto)) (hH.ints (by exact Has.auto)) (hH.valsA (by exact Has.auto)) (by assumption)) ?_)) | (show GO _ _ _ _ _ (⟨some _, none, _⟩ :: _) _; first | refine go_op (hk := ?_) | (refine go_nw (hk := ?_); intro u; try simp only [llc, lln, lna, lza]) | (refine go_np (hk := ?_); intro id)) | (show GO _ _ _ _ _ (⟨none, none, _⟩ :: _) _; refine go_st (hk := ?_)) | (show GO _ _ _ _ _ (⟨_, some _, _⟩ :: _) _; first | refine go_in (hk := ?_) | refine go_out (hk := ?_) | refine go_void (hk := ?_)) | (show GK _ _ _ _ (blockK _ _ _); refine gk_past rfl ?_) | (show GC _ _ _ _ _ (.cond _ _ _) _; first | refine gc_yes (h1 := ?_) | refine gc_no (h1 := ?_))))
      refine gc_keep [(0, a), (1, b), (2, .int .i64 (k : Int)), (6, .ptr i6 0), (7, u7), (8, u8), (9, .ptr i9 0)] [celF i9 ((0 : Int) : Rat), .roI u7 k (xs.take k), .roI b ws.length ws, .rwI u8 (xs.drop k).reverse.length (xs.drop k).reverse, cel0 i6, .roI a xs.length xs] (by (repeat (refine Cov.cons (by exact rfl) ?_)); exact Cov.nil) (by exact Sub.auto) ?_
      refine gc_dra_cut (γ := Unit) (fun _ => [(0, a), (1, b), (2, .int .i64 (k : Int)), (6, .ptr i6 0), (8, u8), (9, .ptr i9 0)]) (fun _ => [celF i9 (((0 : Int) : Rat) + miE (xs.take k) (ws.take k)), cel0 i6, .rwI u8 (xs.drop k).reverse.length (xs.drop k).reverse, .roI a xs.length xs, .roI b ws.length ws]) ?_ (fun _ => ?_)
      · refine gc_dra ?_ (gc_dra ?_ (gc_dra ?_ (gc_dra1 ?_)))
        all_goals
          (repeat (first | refine gst (hk := ?_) | (show GO _ _ _ _ _ (⟨some _, none, .call _ _⟩ :: _) _; first | (refine go_calln rfl code_spec_turned.callable (fun H hH => specTurned_ok (hH.ints (by exact Has.auto)) (by omega)) ?_; intro u) | (refine go_calln rfl code_spec_pool.callable (fun H hH => specPool_ok (hH.ints (by exact Has.auto)) (hH.ints (by exact Has.auto)) (by assumption)) ?_; intro u) | (refine go_calln rfl code_spec_spreadOut.callable (fun H hH => specSpread_ok (hH.ints (by exact Has.auto)) (hH.ints (by exact Has.auto)) (hH.ints (by exact Has.auto)) (by assumption)) ?_; intro u) | (refine go_callp rfl code_spec_missOf.callable (fun H hH => specMissOf_ok (hH.ints (by exact Has.auto)) (hH.ints (by exact Has.auto)) (hH.valsA (by exact Has.auto)) (by assumption)) ?_)) | (show GO _ _ _ _ _ (⟨some _, none, _⟩ :: _) _; first | refine go_op (hk := ?_) | (refine go_nw (hk := ?_); intro u; try simp only [llc, lln, lna, lza]) | (refine go_np (hk := ?_); intro id)) | (show GO _ _ _ _ _ (⟨none, none, _⟩ :: _) _; refine go_st (hk := ?_)) | (show GO _ _ _ _ _ (⟨_, some _, _⟩ :: _) _; first | refine go_in (hk := ?_) | refine go_out (hk := ?_) | refine go_void (hk := ?_)) | (show GK _ _ _ _ (blockK _ _ _); refine gk_past rfl ?_) | (show GC _ _ _ _ _ (.cond _ _ _) _; first | refine gc_yes (h1 := ?_) | refine gc_no (h1 := ?_))))
          refine go_callp rfl code_spec_plus.callable (fun H hH => specPlus_ok (p := ((0 : Int) : Rat)) (q := miE (xs.take k) (ws.take k)) t1) ?_
          (repeat (first | refine gst (hk := ?_) | (show GO _ _ _ _ _ (⟨some _, none, .call _ _⟩ :: _) _; first | (refine go_calln rfl code_spec_turned.callable (fun H hH => specTurned_ok (hH.ints (by exact Has.auto)) (by omega)) ?_; intro u) | (refine go_calln rfl code_spec_pool.callable (fun H hH => specPool_ok (hH.ints (by exact Has.auto)) (hH.ints (by exact Has.auto)) (by assumption)) ?_; intro u) | (refine go_calln rfl code_spec_spreadOut.callable (fun H hH => specSpread_ok (hH.ints (by exact Has.auto)) (hH.ints (by exact Has.auto)) (hH.ints (by exact Has.auto)) (by assumption)) ?_; intro u) | (refine go_callp rfl code_spec_missOf.callable (fun H hH => specMissOf_ok (hH.ints (by exact Has.auto)) (hH.ints (by exact Has.auto)) (hH.valsA (by exact Has.auto)) (by assumption)) ?_)) | (show GO _ _ _ _ _ (⟨some _, none, _⟩ :: _) _; first | refine go_op (hk := ?_) | (refine go_nw (hk := ?_); intro u; try simp only [llc, lln, lna, lza]) | (refine go_np (hk := ?_); intro id)) | (show GO _ _ _ _ _ (⟨none, none, _⟩ :: _) _; refine go_st (hk := ?_)) | (show GO _ _ _ _ _ (⟨_, some _, _⟩ :: _) _; first | refine go_in (hk := ?_) | refine go_out (hk := ?_) | refine go_void (hk := ?_)) | (show GK _ _ _ _ (blockK _ _ _); refine gk_past rfl ?_) | (show GC _ _ _ _ _ (.cond _ _ _) _; first | refine gc_yes (h1 := ?_) | refine gc_no (h1 := ?_))))
          exact gk_cut () (by (repeat (refine Cov.cons (by exact rfl) ?_)); exact Cov.nil) (by exact Sub.auto)
      (repeat (first | refine gst (hk := ?_) | (show GO _ _ _ _ _ (⟨some _, none, .call _ _⟩ :: _) _; first | (refine go_calln rfl code_spec_turned.callable (fun H hH => specTurned_ok (hH.ints (by exact Has.auto)) (by omega)) ?_; intro u) | (refine go_calln rfl code_spec_pool.callable (fun H hH => specPool_ok (hH.ints (by exact Has.auto)) (hH.ints (by exact Has.auto)) (by assumption)) ?_; intro u) | (refine go_calln rfl code_spec_spreadOut.callable (fun H hH => specSpread_ok (hH.ints (by exact Has.auto)) (hH.ints (by exact Has.auto)) (hH.ints (by exact Has.auto)) (by assumption)) ?_; intro u) | (refine go_callp rfl code_spec_missOf.callable (fun H hH => specMissOf_ok (hH.ints (by exact Has.auto)) (hH.ints (by exact Has.auto)) (hH.valsA (by exact Has.auto)) (by assumption)) ?_)) | (show GO _ _ _ _ _ (⟨some _, none, _⟩ :: _) _; first | refine go_op (hk := ?_) | (refine go_nw (hk := ?_); intro u; try simp only [llc, lln, lna, lza]) | (refine go_np (hk := ?_); intro id)) | (show GO _ _ _ _ _ (⟨none, none, _⟩ :: _) _; refine go_st (hk := ?_)) | (show GO _ _ _ _ _ (⟨_, some _, _⟩ :: _) _; first | refine go_in (hk := ?_) | refine go_out (hk := ?_) | refine go_void (hk := ?_)) | (show GK _ _ _ _ (blockK _ _ _); refine gk_past rfl ?_) | (show GC _ _ _ _ _ (.cond _ _ _) _; first | refine gc_yes (h1 := ?_) | refine gc_no (h1 := ?_))))
      exact gk_cutq _ ⟨by unfold ptR; rw [intc0]; grind, fun _ => t3⟩ (by (repeat (refine Cov.cons (by exact rfl) ?_)); exact Cov.nil) (by exact Sub.auto)
    · obtain rfl : k = 0 := by omega
      (repeat (first | refine gst (hk := ?_) | (show GO _ _ _ _ _ (⟨some _, none, .call _ _⟩ :: _) _; first | (refine go_calln rfl code_spec_turned.callable (fun H hH => specTurned_ok (hH.ints (by exact Has.auto)) (by omega)) ?_; intro u) | (refine go_calln rfl code_spec_pool.callable (fun H hH => specPool_ok (hH.ints (by exact Has.auto)) (hH.ints (by exact Has.auto)) (by assumption)) ?_; intro u) | (refine go_calln rfl code_spec_spreadOut.callable (fun H hH => specSpread_ok (hH.ints (by exact Has.auto)) (hH.ints (by exact Has.auto)) (hH.ints (by exact Has.auto)) (by assumption)) ?_; intro u) | (refine go_callp rfl code_spec_missOf.callable (fun H hH => specMissOf_ok (hH.ints (by exact Has.auto)) (hH.ints (by exact Has.auto)) (hH.valsA (by exact Has.auto)) (by assumption)) ?_)) | (show GO _ _ _ _ _ (⟨some _, none, _⟩ :: _) _; first | refine go_op (hk := ?_) | (refine go_nw (hk := ?_); intro u; try simp only [llc, lln, lna, lza]) | (refine go_np (hk := ?_); intro id)) | (show GO _ _ _ _ _ (⟨none, none, _⟩ :: _) _; refine go_st (hk := ?_)) | (show GO _ _ _ _ _ (⟨_, some _, _⟩ :: _) _; first | refine go_in (hk := ?_) | refine go_out (hk := ?_) | refine go_void (hk := ?_)) | (show GK _ _ _ _ (blockK _ _ _); refine gk_past rfl ?_) | (show GC _ _ _ _ _ (.cond _ _ _) _; first | refine gc_yes (h1 := ?_) | refine gc_no (h1 := ?_))))
      exact gk_cutq ((0 : Int) : Rat) ⟨by unfold ptR; rw [show miE (xs.take 0) (ws.take 0) = 0 from rfl, intc0], fun _ => t2⟩ (by (repeat (refine Cov.cons (by exact rfl) ?_)); exact Cov.nil) (by exact Sub.auto)
  rintro q ⟨hq, hf⟩
  (repeat (first | refine gst (hk := ?_) | (show GO _ _ _ _ _ (⟨some _, none, .call _ _⟩ :: _) _; first | (refine go_calln rfl code_spec_turned.callable (fun H hH => specTurned_ok (hH.ints (by exact Has.auto)) (by omega)) ?_; intro u) | (refine go_calln rfl code_spec_pool.callable (fun H hH => specPool_ok (hH.ints (by exact Has.auto)) (hH.ints (by exact Has.auto)) (by assumption)) ?_; intro u) | (refine go_calln rfl code_spec_spreadOut.callable (fun H hH => specSpread_ok (hH.ints (by exact Has.auto)) (hH.ints (by exact Has.auto)) (hH.ints (by exact Has.auto)) (by assumption)) ?_; intro u) | (refine go_callp rfl code_spec_missOf.callable (fun H hH => specMissOf_ok (hH.ints (by exact Has.auto)) (hH.ints (by exact Has.auto)) (hH.valsA (by exact Has.auto)) (by assumption)) ?_)) | (show GO _ _ _ _ _ (⟨some _, none, _⟩ :: _) _; first | refine go_op (hk := ?_) | (refine go_nw (hk := ?_); intro u; try simp only [llc, lln, lna, lza]) | (refine go_np (hk := ?_); intro id)) | (show GO _ _ _ _ _ (⟨none, none, _⟩ :: _) _; refine go_st (hk := ?_)) | (show GO _ _ _ _ _ (⟨_, some _, _⟩ :: _) _; first | refine go_in (hk := ?_) | refine go_out (hk := ?_) | refine go_void (hk := ?_)) | (show GK _ _ _ _ (blockK _ _ _); refine gk_past rfl ?_) | (show GC _ _ _ _ _ (.cond _ _ _) _; first | refine gc_yes (h1 := ?_) | refine gc_no (h1 := ?_))))
  refine gc_cond rfl (fun h => ?_) (fun h => ?_)
  · have hL2 : Loads (xs.drop k).reverse (ws.drop k).reverse := hL.rest (by omega)
    have hf2 := hf (by omega)
    (repeat (first | refine gst (hk := ?_) | (show GO _ _ _ _ _ (⟨some _, none, .call _ _⟩ :: _) _; first | (refine go_calln rfl code_spec_turned.callable (fun H hH => specTurned_ok (hH.ints (by exact Has.auto)) (by omega)) ?_; intro u) | (refine go_calln rfl code_spec_pool.callable (fun H hH => specPool_ok (hH.ints (by exact Has.auto)) (hH.ints (by exact Has.auto)) (by assumption)) ?_; intro u) | (refine go_calln rfl code_spec_spreadOut.callable (fun H hH => specSpread_ok (hH.ints (by exact Has.auto)) (hH.ints (by exact Has.auto)) (hH.ints (by exact Has.auto)) (by assumption)) ?_; intro u) | (refine go_callp rfl code_spec_missOf.callable (fun H hH => specMissOf_ok (hH.ints (by exact Has.auto)) (hH.ints (by exact Has.auto)) (hH.valsA (by exact Has.auto)) (by assumption)) ?_)) | (show GO _ _ _ _ _ (⟨some _, none, _⟩ :: _) _; first | refine go_op (hk := ?_) | (refine go_nw (hk := ?_); intro u; try simp only [llc, lln, lna, lza]) | (refine go_np (hk := ?_); intro id)) | (show GO _ _ _ _ _ (⟨none, none, _⟩ :: _) _; refine go_st (hk := ?_)) | (show GO _ _ _ _ _ (⟨_, some _, _⟩ :: _) _; first | refine go_in (hk := ?_) | refine go_out (hk := ?_) | refine go_void (hk := ?_)) | (show GK _ _ _ _ (blockK _ _ _); refine gk_past rfl ?_) | (show GC _ _ _ _ _ (.cond _ _ _) _; first | refine gc_yes (h1 := ?_) | refine gc_no (h1 := ?_))))
    refine gc_dra_cut (γ := Unit) (fun _ => [(0, a), (1, b), (6, .ptr i6 0), (9, .ptr i9 0)]) (fun _ => [celF i9 (ptR xs ws k), cel0 i6]) ?_ (fun _ => ?_)
    · refine gc_dra ?_ (gc_dra ?_ (gc_dra ?_ (gc_dra1 ?_)))
      all_goals
        (repeat (first | refine gst (hk := ?_) | (show GO _ _ _ _ _ (⟨some _, none, .call _ _⟩ :: _) _; first | (refine go_calln rfl code_spec_turned.callable (fun H hH => specTurned_ok (hH.ints (by exact Has.auto)) (by omega)) ?_; intro u) | (refine go_calln rfl code_spec_pool.callable (fun H hH => specPool_ok (hH.ints (by exact Has.auto)) (hH.ints (by exact Has.auto)) (by assumption)) ?_; intro u) | (refine go_calln rfl code_spec_spreadOut.callable (fun H hH => specSpread_ok (hH.ints (by exact Has.auto)) (hH.ints (by exact Has.auto)) (hH.ints (by exact Has.auto)) (by assumption)) ?_; intro u) | (refine go_callp rfl code_spec_missOf.callable (fun H hH => specMissOf_ok (hH.ints (by exact Has.auto)) (hH.ints (by exact Has.auto)) (hH.valsA (by exact Has.auto)) (by assumption)) ?_)) | (show GO _ _ _ _ _ (⟨some _, none, _⟩ :: _) _; first | refine go_op (hk := ?_) | (refine go_nw (hk := ?_); intro u; try simp only [llc, lln, lna, lza]) | (refine go_np (hk := ?_); intro id)) | (show GO _ _ _ _ _ (⟨none, none, _⟩ :: _) _; refine go_st (hk := ?_)) | (show GO _ _ _ _ _ (⟨_, some _, _⟩ :: _) _; first | refine go_in (hk := ?_) | refine go_out (hk := ?_) | refine go_void (hk := ?_)) | (show GK _ _ _ _ (blockK _ _ _); refine gk_past rfl ?_) | (show GC _ _ _ _ _ (.cond _ _ _) _; first | refine gc_yes (h1 := ?_) | refine gc_no (h1 := ?_))))
        refine go_callp rfl code_spec_plus.callable (fun H hH => specPlus_ok (p := q) (q := miE (xs.drop k).reverse (ws.drop k).reverse) hf2) ?_
        rw [hq]
        (repeat (first | refine gst (hk := ?_) | (show GO _ _ _ _ _ (⟨some _, none, .call _ _⟩ :: _) _; first | (refine go_calln rfl code_spec_turned.callable (fun H hH => specTurned_ok (hH.ints (by exact Has.auto)) (by omega)) ?_; intro u) | (refine go_calln rfl code_spec_pool.callable (fun H hH => specPool_ok (hH.ints (by exact Has.auto)) (hH.ints (by exact Has.auto)) (by assumption)) ?_; intro u) | (refine go_calln rfl code_spec_spreadOut.callable (fun H hH => specSpread_ok (hH.ints (by exact Has.auto)) (hH.ints (by exact Has.auto)) (hH.ints (by exact Has.auto)) (by assumption)) ?_; intro u) | (refine go_callp rfl code_spec_missOf.callable (fun H hH => specMissOf_ok (hH.ints (by exact Has.auto)) (hH.ints (by exact Has.auto)) (hH.valsA (by exact Has.auto)) (by assumption)) ?_)) | (show GO _ _ _ _ _ (⟨some _, none, _⟩ :: _) _; first | refine go_op (hk := ?_) | (refine go_nw (hk := ?_); intro u; try simp only [llc, lln, lna, lza]) | (refine go_np (hk := ?_); intro id)) | (show GO _ _ _ _ _ (⟨none, none, _⟩ :: _) _; refine go_st (hk := ?_)) | (show GO _ _ _ _ _ (⟨_, some _, _⟩ :: _) _; first | refine go_in (hk := ?_) | refine go_out (hk := ?_) | refine go_void (hk := ?_)) | (show GK _ _ _ _ (blockK _ _ _); refine gk_past rfl ?_) | (show GC _ _ _ _ _ (.cond _ _ _) _; first | refine gc_yes (h1 := ?_) | refine gc_no (h1 := ?_))))
        exact gk_cut () (by (repeat (refine Cov.cons (by exact rfl) ?_)); exact Cov.nil) (by exact Sub.auto)
    (repeat (first | refine gst (hk := ?_) | (show GO _ _ _ _ _ (⟨some _, none, .call _ _⟩ :: _) _; first | (refine go_calln rfl code_spec_turned.callable (fun H hH => specTurned_ok (hH.ints (by exact Has.auto)) (by omega)) ?_; intro u) | (refine go_calln rfl code_spec_pool.callable (fun H hH => specPool_ok (hH.ints (by exact Has.auto)) (hH.ints (by exact Has.auto)) (by assumption)) ?_; intro u) | (refine go_calln rfl code_spec_spreadOut.callable (fun H hH => specSpread_ok (hH.ints (by exact Has.auto)) (hH.ints (by exact Has.auto)) (hH.ints (by exact Has.auto)) (by assumption)) ?_; intro u) | (refine go_callp rfl code_spec_missOf.callable (fun H hH => specMissOf_ok (hH.ints (by exact Has.auto)) (hH.ints (by exact Has.auto)) (hH.valsA (by exact Has.auto)) (by assumption)) ?_)) | (show GO _ _ _ _ _ (⟨some _, none, _⟩ :: _) _; first | refine go_op (hk := ?_) | (refine go_nw (hk := ?_); intro u; try simp only [llc, lln, lna, lza]) | (refine go_np (hk := ?_); intro id)) | (show GO _ _ _ _ _ (⟨none, none, _⟩ :: _) _; refine go_st (hk := ?_)) | (show GO _ _ _ _ _ (⟨_, some _, _⟩ :: _) _; first | refine go_in (hk := ?_) | refine go_out (hk := ?_) | refine go_void (hk := ?_)) | (show GK _ _ _ _ (blockK _ _ _); refine gk_past rfl ?_) | (show GC _ _ _ _ _ (.cond _ _ _) _; first | refine gc_yes (h1 := ?_) | refine gc_no (h1 := ?_))))
    exact gk_rets (rvs_c rfl (by exact Sel.auto) rfl rfl rvs_nil) fun H' hH => ⟨rfl, hH.leE⟩
  · have hz : miE (xs.drop k).reverse (ws.drop k).reverse = 0 := by
      rw [List.drop_eq_nil_of_le (by omega : xs.length ≤ k)]; rfl
    have hq2 : q = ptR xs ws k := by rw [← hq, hz]; grind
    subst hq2
    (repeat (first | refine gst (hk := ?_) | (show GO _ _ _ _ _ (⟨some _, none, .call _ _⟩ :: _) _; first | (refine go_calln rfl code_spec_turned.callable (fun H hH => specTurned_ok (hH.ints (by exact Has.auto)) (by omega)) ?_; intro u) | (refine go_calln rfl code_spec_pool.callable (fun H hH => specPool_ok (hH.ints (by exact Has.auto)) (hH.ints (by exact Has.auto)) (by assumption)) ?_; intro u) | (refine go_calln rfl code_spec_spreadOut.callable (fun H hH => specSpread_ok (hH.ints (by exact Has.auto)) (hH.ints (by exact Has.auto)) (hH.ints (by exact Has.auto)) (by assumption)) ?_; intro u) | (refine go_callp rfl code_spec_missOf.callable (fun H hH => specMissOf_ok (hH.ints (by exact Has.auto)) (hH.ints (by exact Has.auto)) (hH.valsA (by exact Has.auto)) (by assumption)) ?_)) | (show GO _ _ _ _ _ (⟨some _, none, _⟩ :: _) _; first | refine go_op (hk := ?_) | (refine go_nw (hk := ?_); intro u; try simp only [llc, lln, lna, lza]) | (refine go_np (hk := ?_); intro id)) | (show GO _ _ _ _ _ (⟨none, none, _⟩ :: _) _; refine go_st (hk := ?_)) | (show GO _ _ _ _ _ (⟨_, some _, _⟩ :: _) _; first | refine go_in (hk := ?_) | refine go_out (hk := ?_) | refine go_void (hk := ?_)) | (show GK _ _ _ _ (blockK _ _ _); refine gk_past rfl ?_) | (show GC _ _ _ _ _ (.cond _ _ _) _; first | refine gc_yes (h1 := ?_) | refine gc_no (h1 := ?_))))
    exact gk_rets (rvs_c rfl (by exact Sel.auto) rfl rfl rvs_nil) fun H' hH => ⟨rfl, hH.leE⟩

noncomputable def pkN (xs ws : List Int) : Nat → Nat
  | 0 => 0
  | k + 1 => if ptR xs ws (k + 1) < ptR xs ws (pkN xs ws k) then k + 1 else pkN xs ws k

theorem pkN_is (xs ws : List Int) : ∀ k, pkN xs ws k ≤ k ∧ ∀ j, j ≤ k → ptR xs ws (pkN xs ws k) ≤ ptR xs ws j
  | 0 => ⟨Nat.le_refl _, fun j hj => by obtain rfl : j = 0 := by omega
                                        exact Rat.le_refl⟩
  | k + 1 => by
    obtain ⟨h1, h2⟩ := pkN_is xs ws k
    rw [show pkN xs ws (k + 1) = if ptR xs ws (k + 1) < ptR xs ws (pkN xs ws k) then k + 1 else pkN xs ws k from rfl]
    by_cases hc : ptR xs ws (k + 1) < ptR xs ws (pkN xs ws k)
    · rw [if_pos hc]
      refine ⟨Nat.le_refl _, fun j hj => ?_⟩
      rcases Nat.lt_or_ge k j with g | g
      · rw [show j = k + 1 by omega]; exact Rat.le_refl
      · exact Rat.le_trans (Rat.le_of_lt hc) (h2 j g)
    · rw [if_neg hc]
      refine ⟨by omega, fun j hj => ?_⟩
      rcases Nat.lt_or_ge k j with g | g
      · rw [show j = k + 1 by omega]; exact Rat.not_lt.1 hc
      · exact h2 j g

noncomputable def pkX (xs ws : List Int) : AV := if Loads xs ws then .tuple [.int .i64 (pkN xs ws xs.length : Int), frV (ptR xs ws (pkN xs ws xs.length)), .bool true] else .tuple [.int .i64 0, fr0, .bool false]

theorem specPeakOf_ok {H : Heap} {a b : AV} {xs ws : List Int} (ha : Ints H a xs) (hb : Ints H b ws) (hl : xs.length ≤ 1000000000) (hl' : ws.length ≤ 1000000000) :
    ACalls Try.prog fn_spec_PeakOf [a, b] H fun r H' => r = pkX xs ws ∧ H' = H := by
  refine ACalls.val ?_ (by unfold pkX; split <;> rfl)
  refine code_spec_PeakOf.go [.roI a xs.length xs, .roI b ws.length ws] ⟨⟨rfl, ha⟩, ⟨rfl, hb⟩, trivial⟩ (by simp) ?_
  unfold mc_spec_PeakOf
  (repeat (first | refine gst (hk := ?_) | (with_reducible first | (refine gc_drw (h := ?_); intro _) | (refine gc_drw2 (h := ?_); intro _)) | (show GO _ _ _ _ _ (⟨some _, none, .call _ _⟩ :: _) _; first | (refine go_callp rfl code_spec_validLoads.callable (fun H hH => specValidLoads_ok (hH.ints (by exact Has.auto)) (hH.ints (by exact Has.auto)) (by omega) (by omega)) ?_) | (refine go_callp rfl code_spec_riseTo.callable (fun H hH => specRiseTo_ok (hH.ints (by exact Has.auto)) (hH.ints (by exact Has.auto)) (by assumption) (by omega)) ?_)) | (show GO _ _ _ _ _ (⟨some _, none, _⟩ :: _) _; first | refine go_op (hk := ?_) | (refine go_nw (hk := ?_); intro u; try simp only [llc, lln, lna, lza]) | (refine go_np (hk := ?_); intro id)) | (show GD _ _ _ _ _ _ _ (⟨some _, none, _⟩ :: _) _; first | refine gd_op (hk := ?_) | (refine gd_nw (hk := ?_); intro u; try simp only [llc, lln, lna, lza])) | (show GD2 _ _ _ _ _ _ _ _ _ _ _ _ _ _; first | refine gd2_nil rfl ?_ | refine gd2_op (hk := ?_) | (refine gd2_nw (hk := ?_); intro u; try simp only [llc, lln, lna, lza]) | refine gd2_l (hk := ?_) | refine gd2_lp (hk := ?_) | (refine gd2_newp (hk := ?_); intro id) | refine gd2_st (hk := ?_) | (refine gd2_bsl rfl rfl ?_; intro u; try simp only [llc, lln, lna, lza]) | (refine gd2_a (hk := ?_); intro u; try simp only [llc, lln, lna, lza])) | (show GO _ _ _ _ _ (⟨none, none, _⟩ :: _) _; refine go_st (hk := ?_)) | (show GD _ _ _ _ _ _ _ (⟨none, none, _⟩ :: _) _; refine gd_st (hk := ?_)) | (show GO _ _ _ _ _ (⟨_, some _, _⟩ :: _) _; first | refine go_in (hk := ?_) | refine go_out (hk := ?_) | refine go_void (hk := ?_)) | (show GK _ _ _ _ (blockK _ _ _); refine gk_past rfl ?_) | (show GC _ _ _ _ _ (.cond _ _ _) _; first | refine gc_yes (h1 := ?_) | refine gc_no (h1 := ?_))))
  refine gc_cond rfl (fun h => ?_) (fun h => ?_)
  · (repeat (first | refine gst (hk := ?_) | (with_reducible first | (refine gc_drw (h := ?_); intro _) | (refine gc_drw2 (h := ?_); intro _)) | (show GO _ _ _ _ _ (⟨some _, none, .call _ _⟩ :: _) _; first | (refine go_callp rfl code_spec_validLoads.callable (fun H hH => specValidLoads_ok (hH.ints (by exact Has.auto)) (hH.ints (by exact Has.auto)) (by omega) (by omega)) ?_) | (refine go_callp rfl code_spec_riseTo.callable (fun H hH => specRiseTo_ok (hH.ints (by exact Has.auto)) (hH.ints (by exact Has.auto)) (by assumption) (by omega)) ?_)) | (show GO _ _ _ _ _ (⟨some _, none, _⟩ :: _) _; first | refine go_op (hk := ?_) | (refine go_nw (hk := ?_); intro u; try simp only [llc, lln, lna, lza]) | (refine go_np (hk := ?_); intro id)) | (show GD _ _ _ _ _ _ _ (⟨some _, none, _⟩ :: _) _; first | refine gd_op (hk := ?_) | (refine gd_nw (hk := ?_); intro u; try simp only [llc, lln, lna, lza])) | (show GD2 _ _ _ _ _ _ _ _ _ _ _ _ _ _; first | refine gd2_nil rfl ?_ | refine gd2_op (hk := ?_) | (refine gd2_nw (hk := ?_); intro u; try simp only [llc, lln, lna, lza]) | refine gd2_l (hk := ?_) | refine gd2_lp (hk := ?_) | (refine gd2_newp (hk := ?_); intro id) | refine gd2_st (hk := ?_) | (refine gd2_bsl rfl rfl ?_; intro u; try simp only [llc, lln, lna, lza]) | (refine gd2_a (hk := ?_); intro u; try simp only [llc, lln, lna, lza])) | (show GO _ _ _ _ _ (⟨none, none, _⟩ :: _) _; refine go_st (hk := ?_)) | (show GD _ _ _ _ _ _ _ (⟨none, none, _⟩ :: _) _; refine gd_st (hk := ?_)) | (show GO _ _ _ _ _ (⟨_, some _, _⟩ :: _) _; first | refine go_in (hk := ?_) | refine go_out (hk := ?_) | refine go_void (hk := ?_)) | (show GK _ _ _ _ (blockK _ _ _); refine gk_past rfl ?_) | (show GC _ _ _ _ _ (.cond _ _ _) _; first | refine gc_yes (h1 := ?_) | refine gc_no (h1 := ?_))))
    exact gk_rets (rvs_t rfl (rvs_c rfl (by exact Sel.auto) rfl rfl (rvs_t rfl rvs_nil))) fun H' hH => ⟨by unfold pkX; rw [if_neg h]; rfl, hH.leE⟩
  have hL := Decidable.not_not.1 h
  (repeat (first | refine gst (hk := ?_) | (with_reducible first | (refine gc_drw (h := ?_); intro _) | (refine gc_drw2 (h := ?_); intro _)) | (show GO _ _ _ _ _ (⟨some _, none, .call _ _⟩ :: _) _; first | (refine go_callp rfl code_spec_validLoads.callable (fun H hH => specValidLoads_ok (hH.ints (by exact Has.auto)) (hH.ints (by exact Has.auto)) (by omega) (by omega)) ?_) | (refine go_callp rfl code_spec_riseTo.callable (fun H hH => specRiseTo_ok (hH.ints (by exact Has.auto)) (hH.ints (by exact Has.auto)) (by assumption) (by omega)) ?_)) | (show GO _ _ _ _ _ (⟨some _, none, _⟩ :: _) _; first | refine go_op (hk := ?_) | (refine go_nw (hk := ?_); intro u; try simp only [llc, lln, lna, lza]) | (refine go_np (hk := ?_); intro id)) | (show GD _ _ _ _ _ _ _ (⟨some _, none, _⟩ :: _) _; first | refine gd_op (hk := ?_) | (refine gd_nw (hk := ?_); intro u; try simp only [llc, lln, lna, lza])) | (show GD2 _ _ _ _ _ _ _ _ _ _ _ _ _ _; first | refine gd2_nil rfl ?_ | refine gd2_op (hk := ?_) | (refine gd2_nw (hk := ?_); intro u; try simp only [llc, lln, lna, lza]) | refine gd2_l (hk := ?_) | refine gd2_lp (hk := ?_) | (refine gd2_newp (hk := ?_); intro id) | refine gd2_st (hk := ?_) | (refine gd2_bsl rfl rfl ?_; intro u; try simp only [llc, lln, lna, lza]) | (refine gd2_a (hk := ?_); intro u; try simp only [llc, lln, lna, lza])) | (show GO _ _ _ _ _ (⟨none, none, _⟩ :: _) _; refine go_st (hk := ?_)) | (show GD _ _ _ _ _ _ _ (⟨none, none, _⟩ :: _) _; refine gd_st (hk := ?_)) | (show GO _ _ _ _ _ (⟨_, some _, _⟩ :: _) _; first | refine go_in (hk := ?_) | refine go_out (hk := ?_) | refine go_void (hk := ?_)) | (show GK _ _ _ _ (blockK _ _ _); refine gk_past rfl ?_) | (show GC _ _ _ _ _ (.cond _ _ _) _; first | refine gc_yes (h1 := ?_) | refine gc_no (h1 := ?_))))
  refine go_callp rfl code_spec_riseTo.callable (fun H hH => specRiseTo_ok (k := 0) (hH.ints (by exact Has.auto)) (hH.ints (by exact Has.auto)) hL (by omega)) ?_
  (repeat (first | refine gst (hk := ?_) | (with_reducible first | (refine gc_drw (h := ?_); intro _) | (refine gc_drw2 (h := ?_); intro _)) | (show GO _ _ _ _ _ (⟨some _, none, .call _ _⟩ :: _) _; first | (refine go_callp rfl code_spec_validLoads.callable (fun H hH => specValidLoads_ok (hH.ints (by exact Has.auto)) (hH.ints (by exact Has.auto)) (by omega) (by omega)) ?_) | (refine go_callp rfl code_spec_riseTo.callable (fun H hH => specRiseTo_ok (hH.ints (by exact Has.auto)) (hH.ints (by exact Has.auto)) (by assumption) (by omega)) ?_)) | (show GO _ _ _ _ _ (⟨some _, none, _⟩ :: _) _; first | refine go_op (hk := ?_) | (refine go_nw (hk := ?_); intro u; try simp only [llc, lln, lna, lza]) | (refine go_np (hk := ?_); intro id)) | (show GD _ _ _ _ _ _ _ (⟨some _, none, _⟩ :: _) _; first | refine gd_op (hk := ?_) | (refine gd_nw (hk := ?_); intro u; try simp only [llc, lln, lna, lza])) | (show GD2 _ _ _ _ _ _ _ _ _ _ _ _ _ _; first | refine gd2_nil rfl ?_ | refine gd2_op (hk := ?_) | (refine gd2_nw (hk := ?_); intro u; try simp only [llc, lln, lna, lza]) | refine gd2_l (hk := ?_) | refine gd2_lp (hk := ?_) | (refine gd2_newp (hk := ?_); intro id) | refine gd2_st (hk := ?_) | (refine gd2_bsl rfl rfl ?_; intro u; try simp only [llc, lln, lna, lza]) | (refine gd2_a (hk := ?_); intro u; try simp only [llc, lln, lna, lza])) | (show GO _ _ _ _ _ (⟨none, none, _⟩ :: _) _; refine go_st (hk := ?_)) | (show GD _ _ _ _ _ _ _ (⟨none, none, _⟩ :: _) _; refine gd_st (hk := ?_)) | (show GO _ _ _ _ _ (⟨_, some _, _⟩ :: _) _; first | refine go_in (hk := ?_) | refine go_out (hk := ?_) | refine go_void (hk := ?_)) | (show GK _ _ _ _ (blockK _ _ _); refine gk_past rfl ?_) | (show GC _ _ _ _ _ (.cond _ _ _) _; first | refine gc_yes (h1 := ?_) | refine gc_no (h1 := ?_))))
  revert id; intro i8
  revert id; intro i5
  refine gc_up xs.length (fun k => [(0, a), (1, b), (5, .ptr i5 0), (7, .int .i64 (pkN xs ws k : Int)), (8, .ptr i8 0), (9, .int .i64 ((k + 1 : Nat) : Int))]) (fun k => [celF i8 (ptR xs ws (pkN xs ws k)), cel0 i5, .roI a xs.length xs, .roI b ws.length ws]) (hb := ?_)
  intro k hk I ν m hk2
  have hp := (pkN_is xs ws k).1
  (repeat (first | refine gst (hk := ?_) | (with_reducible first | (refine gc_drw (h := ?_); intro _) | (refine gc_drw2 (h := ?_); intro _)) | (show GO _ _ _ _ _ (⟨some _, none, .call _ _⟩ :: _) _; first | (refine go_callp rfl code_spec_validLoads.callable (fun H hH => specValidLoads_ok (hH.ints (by exact Has.auto)) (hH.ints (by exact Has.auto)) (by omega) (by omega)) ?_) | (refine go_callp rfl code_spec_riseTo.callable (fun H hH => specRiseTo_ok (hH.ints (by exact Has.auto)) (hH.ints (by exact Has.auto)) (by assumption) (by omega)) ?_)) | (show GO _ _ _ _ _ (⟨some _, none, _⟩ :: _) _; first | refine go_op (hk := ?_) | (refine go_nw (hk := ?_); intro u; try simp only [llc, lln, lna, lza]) | (refine go_np (hk := ?_); intro id)) | (show GD _ _ _ _ _ _ _ (⟨some _, none, _⟩ :: _) _; first | refine gd_op (hk := ?_) | (refine gd_nw (hk := ?_); intro u; try simp only [llc, lln, lna, lza])) | (show GD2 _ _ _ _ _ _ _ _ _ _ _ _ _ _; first | refine gd2_nil rfl ?_ | refine gd2_op (hk := ?_) | (refine gd2_nw (hk := ?_); intro u; try simp only [llc, lln, lna, lza]) | refine gd2_l (hk := ?_) | refine gd2_lp (hk := ?_) | (refine gd2_newp (hk := ?_); intro id) | refine gd2_st (hk := ?_) | (refine gd2_bsl rfl rfl ?_; intro u; try simp only [llc, lln, lna, lza]) | (refine gd2_a (hk := ?_); intro u; try simp only [llc, lln, lna, lza])) | (show GO _ _ _ _ _ (⟨none, none, _⟩ :: _) _; refine go_st (hk := ?_)) | (show GD _ _ _ _ _ _ _ (⟨none, none, _⟩ :: _) _; refine gd_st (hk := ?_)) | (show GO _ _ _ _ _ (⟨_, some _, _⟩ :: _) _; first | refine go_in (hk := ?_) | refine go_out (hk := ?_) | refine go_void (hk := ?_)) | (show GK _ _ _ _ (blockK _ _ _); refine gk_past rfl ?_) | (show GC _ _ _ _ _ (.cond _ _ _) _; first | refine gc_yes (h1 := ?_) | refine gc_no (h1 := ?_))))
  refine gc_cond rfl (fun h1 => ?_) (fun h1 => ?_)
  · have hk3 := hk2 (by omega)
    (repeat (first | refine gst (hk := ?_) | (with_reducible first | (refine gc_drw (h := ?_); intro _) | (refine gc_drw2 (h := ?_); intro _)) | (show GO _ _ _ _ _ (⟨some _, none, .call _ _⟩ :: _) _; first | (refine go_callp rfl code_spec_validLoads.callable (fun H hH => specValidLoads_ok (hH.ints (by exact Has.auto)) (hH.ints (by exact Has.auto)) (by omega) (by omega)) ?_) | (refine go_callp rfl code_spec_riseTo.callable (fun H hH => specRiseTo_ok (hH.ints (by exact Has.auto)) (hH.ints (by exact Has.auto)) (by assumption) (by omega)) ?_)) | (show GO _ _ _ _ _ (⟨some _, none, _⟩ :: _) _; first | refine go_op (hk := ?_) | (refine go_nw (hk := ?_); intro u; try simp only [llc, lln, lna, lza]) | (refine go_np (hk := ?_); intro id)) | (show GD _ _ _ _ _ _ _ (⟨some _, none, _⟩ :: _) _; first | refine gd_op (hk := ?_) | (refine gd_nw (hk := ?_); intro u; try simp only [llc, lln, lna, lza])) | (show GD2 _ _ _ _ _ _ _ _ _ _ _ _ _ _; first | refine gd2_nil rfl ?_ | refine gd2_op (hk := ?_) | (refine gd2_nw (hk := ?_); intro u; try simp only [llc, lln, lna, lza]) | refine gd2_l (hk := ?_) | refine gd2_lp (hk := ?_) | (refine gd2_newp (hk := ?_); intro id) | refine gd2_st (hk := ?_) | (refine gd2_bsl rfl rfl ?_; intro u; try simp only [llc, lln, lna, lza]) | (refine gd2_a (hk := ?_); intro u; try simp only [llc, lln, lna, lza])) | (show GO _ _ _ _ _ (⟨none, none, _⟩ :: _) _; refine go_st (hk := ?_)) | (show GD _ _ _ _ _ _ _ (⟨none, none, _⟩ :: _) _; refine gd_st (hk := ?_)) | (show GO _ _ _ _ _ (⟨_, some _, _⟩ :: _) _; first | refine go_in (hk := ?_) | refine go_out (hk := ?_) | refine go_void (hk := ?_)) | (show GK _ _ _ _ (blockK _ _ _); refine gk_past rfl ?_) | (show GC _ _ _ _ _ (.cond _ _ _) _; first | refine gc_yes (h1 := ?_) | refine gc_no (h1 := ?_))))
    refine go_callp rfl code_spec_less.callable (fun H hH => specLess_ok (hL.pt_fit (k := k + 1) (j := pkN xs ws k) (by omega) (by omega))) ?_
    (repeat (first | refine gst (hk := ?_) | (with_reducible first | (refine gc_drw (h := ?_); intro _) | (refine gc_drw2 (h := ?_); intro _)) | (show GO _ _ _ _ _ (⟨some _, none, .call _ _⟩ :: _) _; first | (refine go_callp rfl code_spec_validLoads.callable (fun H hH => specValidLoads_ok (hH.ints (by exact Has.auto)) (hH.ints (by exact Has.auto)) (by omega) (by omega)) ?_) | (refine go_callp rfl code_spec_riseTo.callable (fun H hH => specRiseTo_ok (hH.ints (by exact Has.auto)) (hH.ints (by exact Has.auto)) (by assumption) (by omega)) ?_)) | (show GO _ _ _ _ _ (⟨some _, none, _⟩ :: _) _; first | refine go_op (hk := ?_) | (refine go_nw (hk := ?_); intro u; try simp only [llc, lln, lna, lza]) | (refine go_np (hk := ?_); intro id)) | (show GD _ _ _ _ _ _ _ (⟨some _, none, _⟩ :: _) _; first | refine gd_op (hk := ?_) | (refine gd_nw (hk := ?_); intro u; try simp only [llc, lln, lna, lza])) | (show GD2 _ _ _ _ _ _ _ _ _ _ _ _ _ _; first | refine gd2_nil rfl ?_ | refine gd2_op (hk := ?_) | (refine gd2_nw (hk := ?_); intro u; try simp only [llc, lln, lna, lza]) | refine gd2_l (hk := ?_) | refine gd2_lp (hk := ?_) | (refine gd2_newp (hk := ?_); intro id) | refine gd2_st (hk := ?_) | (refine gd2_bsl rfl rfl ?_; intro u; try simp only [llc, lln, lna, lza]) | (refine gd2_a (hk := ?_); intro u; try simp only [llc, lln, lna, lza])) | (show GO _ _ _ _ _ (⟨none, none, _⟩ :: _) _; refine go_st (hk := ?_)) | (show GD _ _ _ _ _ _ _ (⟨none, none, _⟩ :: _) _; refine gd_st (hk := ?_)) | (show GO _ _ _ _ _ (⟨_, some _, _⟩ :: _) _; first | refine go_in (hk := ?_) | refine go_out (hk := ?_) | refine go_void (hk := ?_)) | (show GK _ _ _ _ (blockK _ _ _); refine gk_past rfl ?_) | (show GC _ _ _ _ _ (.cond _ _ _) _; first | refine gc_yes (h1 := ?_) | refine gc_no (h1 := ?_))))
    refine gc_cond rfl (fun h2 => ?_) (fun h2 => ?_)
    · rw [show pkN xs ws (k + 1) = k + 1 from if_pos h2] at hk3
      (repeat (first | refine gst (hk := ?_) | (with_reducible first | (refine gc_drw (h := ?_); intro _) | (refine gc_drw2 (h := ?_); intro _)) | (show GO _ _ _ _ _ (⟨some _, none, .call _ _⟩ :: _) _; first | (refine go_callp rfl code_spec_validLoads.callable (fun H hH => specValidLoads_ok (hH.ints (by exact Has.auto)) (hH.ints (by exact Has.auto)) (by omega) (by omega)) ?_) | (refine go_callp rfl code_spec_riseTo.callable (fun H hH => specRiseTo_ok (hH.ints (by exact Has.auto)) (hH.ints (by exact Has.auto)) (by assumption) (by omega)) ?_)) | (show GO _ _ _ _ _ (⟨some _, none, _⟩ :: _) _; first | refine go_op (hk := ?_) | (refine go_nw (hk := ?_); intro u; try simp only [llc, lln, lna, lza]) | (refine go_np (hk := ?_); intro id)) | (show GD _ _ _ _ _ _ _ (⟨some _, none, _⟩ :: _) _; first | refine gd_op (hk := ?_) | (refine gd_nw (hk := ?_); intro u; try simp only [llc, lln, lna, lza])) | (show GD2 _ _ _ _ _ _ _ _ _ _ _ _ _ _; first | refine gd2_nil rfl ?_ | refine gd2_op (hk := ?_) | (refine gd2_nw (hk := ?_); intro u; try simp only [llc, lln, lna, lza]) | refine gd2_l (hk := ?_) | refine gd2_lp (hk := ?_) | (refine gd2_newp (hk := ?_); intro id) | refine gd2_st (hk := ?_) | (refine gd2_bsl rfl rfl ?_; intro u; try simp only [llc, lln, lna, lza]) | (refine gd2_a (hk := ?_); intro u; try simp only [llc, lln, lna, lza])) | (show GO _ _ _ _ _ (⟨none, none, _⟩ :: _) _; refine go_st (hk := ?_)) | (show GD _ _ _ _ _ _ _ (⟨none, none, _⟩ :: _) _; refine gd_st (hk := ?_)) | (show GO _ _ _ _ _ (⟨_, some _, _⟩ :: _) _; first | refine go_in (hk := ?_) | refine go_out (hk := ?_) | refine go_void (hk := ?_)) | (show GK _ _ _ _ (blockK _ _ _); refine gk_past rfl ?_) | (show GC _ _ _ _ _ (.cond _ _ _) _; first | refine gc_yes (h1 := ?_) | refine gc_no (h1 := ?_))))
      exact gk_next hk3
    · rw [show pkN xs ws (k + 1) = pkN xs ws k from if_neg h2] at hk3
      (repeat (first | refine gst (hk := ?_) | (with_reducible first | (refine gc_drw (h := ?_); intro _) | (refine gc_drw2 (h := ?_); intro _)) | (show GO _ _ _ _ _ (⟨some _, none, .call _ _⟩ :: _) _; first | (refine go_callp rfl code_spec_validLoads.callable (fun H hH => specValidLoads_ok (hH.ints (by exact Has.auto)) (hH.ints (by exact Has.auto)) (by omega) (by omega)) ?_) | (refine go_callp rfl code_spec_riseTo.callable (fun H hH => specRiseTo_ok (hH.ints (by exact Has.auto)) (hH.ints (by exact Has.auto)) (by assumption) (by omega)) ?_)) | (show GO _ _ _ _ _ (⟨some _, none, _⟩ :: _) _; first | refine go_op (hk := ?_) | (refine go_nw (hk := ?_); intro u; try simp only [llc, lln, lna, lza]) | (refine go_np (hk := ?_); intro id)) | (show GD _ _ _ _ _ _ _ (⟨some _, none, _⟩ :: _) _; first | refine gd_op (hk := ?_) | (refine gd_nw (hk := ?_); intro u; try simp only [llc, lln, lna, lza])) | (show GD2 _ _ _ _ _ _ _ _ _ _ _ _ _ _; first | refine gd2_nil rfl ?_ | refine gd2_op (hk := ?_) | (refine gd2_nw (hk := ?_); intro u; try simp only [llc, lln, lna, lza]) | refine gd2_l (hk := ?_) | refine gd2_lp (hk := ?_) | (refine gd2_newp (hk := ?_); intro id) | refine gd2_st (hk := ?_) | (refine gd2_bsl rfl rfl ?_; intro u; try simp only [llc, lln, lna, lza]) | (refine gd2_a (hk := ?_); intro u; try simp only [llc, lln, lna, lza])) | (show GO _ _ _ _ _ (⟨none, none, _⟩ :: _) _; refine go_st (hk := ?_)) | (show GD _ _ _ _ _ _ _ (⟨none, none, _⟩ :: _) _; refine gd_st (hk := ?_)) | (show GO _ _ _ _ _ (⟨_, some _, _⟩ :: _) _; first | refine go_in (hk := ?_) | refine go_out (hk := ?_) | refine go_void (hk := ?_)) | (show GK _ _ _ _ (blockK _ _ _); refine gk_past rfl ?_) | (show GC _ _ _ _ _ (.cond _ _ _) _; first | refine gc_yes (h1 := ?_) | refine gc_no (h1 := ?_))))
      exact gk_next hk3
  · obtain rfl : k = xs.length := by omega
    (repeat (first | refine gst (hk := ?_) | (with_reducible first | (refine gc_drw (h := ?_); intro _) | (refine gc_drw2 (h := ?_); intro _)) | (show GO _ _ _ _ _ (⟨some _, none, .call _ _⟩ :: _) _; first | (refine go_callp rfl code_spec_validLoads.callable (fun H hH => specValidLoads_ok (hH.ints (by exact Has.auto)) (hH.ints (by exact Has.auto)) (by omega) (by omega)) ?_) | (refine go_callp rfl code_spec_riseTo.callable (fun H hH => specRiseTo_ok (hH.ints (by exact Has.auto)) (hH.ints (by exact Has.auto)) (by assumption) (by omega)) ?_)) | (show GO _ _ _ _ _ (⟨some _, none, _⟩ :: _) _; first | refine go_op (hk := ?_) | (refine go_nw (hk := ?_); intro u; try simp only [llc, lln, lna, lza]) | (refine go_np (hk := ?_); intro id)) | (show GD _ _ _ _ _ _ _ (⟨some _, none, _⟩ :: _) _; first | refine gd_op (hk := ?_) | (refine gd_nw (hk := ?_); intro u; try simp only [llc, lln, lna, lza])) | (show GD2 _ _ _ _ _ _ _ _ _ _ _ _ _ _; first | refine gd2_nil rfl ?_ | refine gd2_op (hk := ?_) | (refine gd2_nw (hk := ?_); intro u; try simp only [llc, lln, lna, lza]) | refine gd2_l (hk := ?_) | refine gd2_lp (hk := ?_) | (refine gd2_newp (hk := ?_); intro id) | refine gd2_st (hk := ?_) | (refine gd2_bsl rfl rfl ?_; intro u; try simp only [llc, lln, lna, lza]) | (refine gd2_a (hk := ?_); intro u; try simp only [llc, lln, lna, lza])) | (show GO _ _ _ _ _ (⟨none, none, _⟩ :: _) _; refine go_st (hk := ?_)) | (show GD _ _ _ _ _ _ _ (⟨none, none, _⟩ :: _) _; refine gd_st (hk := ?_)) | (show GO _ _ _ _ _ (⟨_, some _, _⟩ :: _) _; first | refine go_in (hk := ?_) | refine go_out (hk := ?_) | refine go_void (hk := ?_)) | (show GK _ _ _ _ (blockK _ _ _); refine gk_past rfl ?_) | (show GC _ _ _ _ _ (.cond _ _ _) _; first | refine gc_yes (h1 := ?_) | refine gc_no (h1 := ?_))))
    exact gk_rets (rvs_t rfl (rvs_c rfl (by exact Sel.auto) rfl rfl (rvs_t rfl rvs_nil))) fun H' hH => ⟨by unfold pkX; rw [if_pos hL]; rfl, hH.leE⟩

theorem hc_goS {P : Program} {A : Heap} {X : List Nat} {S : Sig} {f : FuncId} {mc : MC} {rs : List RV} {N : Nat} (h : HasCode P f mc rs N) {args : List AV} {H : Heap} {R : AV → Heap → Prop} (hS : SOk A X S H.size H) (hn : args.length ≤ N) (hw : GC P A X (argsE 0 args) S mc (retK rs R)) : ACalls P f args H R := by
  refine h.calls hn (hw.g _ ⟨fun i v hv => ?_, hS⟩)
  have := (argsE_init args 0 i v hv).2
  simpa using this

theorem hc_godS {P : Program} {A : Heap} {X : List Nat} {S : Sig} {f : FuncId} {mc : MC} {rs : List RV} {N : Nat} (h : HasCode P f mc rs N) {args : List AV} {H : Heap} {R : AV → Heap → Prop} (hS : SOk A X S H.size H) (hn : args.length ≤ N) (hw : GC P A X (argsE 0 args) S mc (retK rs R)) : ADefers P f args H R := by
  refine h.defers hn (hw.g _ ⟨fun i v hv => ?_, hS⟩)
  have := (argsE_init args 0 i v hv).2
  simpa using this

theorem hcd_goS {P : Program} {A : Heap} {X : List Nat} {S : Sig} {f : FuncId} {mc : MC} {rs : List RV} {N : Nat} (h : HasCodeD P f mc rs N) {args : List AV} {H : Heap} {R : AV → Heap → Prop} (hS : SOk A X S H.size H) (hn : args.length ≤ N) (hw : GC P A X ((N, .tuple []) :: argsE 0 args) S mc (retD P N rs R)) : ACalls P f args H R := by
  refine h.calls hn (hw.g _ ⟨fun i v hv => ?_, hS⟩)
  simp only [look] at hv
  by_cases hi : N = i
  · subst hi
    have : Nat.beq N N = true := by simp
    rw [this] at hv
    simp only [cond_true, Option.some.injEq] at hv
    subst hv
    simp only [init]
    rw [List.getD, List.getElem?_eq_none (by omega)]; rfl
  · have : Nat.beq N i = false := by
      cases hb : Nat.beq N i with
      | true => exact absurd (Nat.eq_of_beq_eq_true hb) hi
      | false => rfl
    rw [this] at hv
    have := (argsE_init args 0 i v hv).2
    simpa using this
/- either kind of a slice -/

theorem has_k {k : Kd} (h : k = .rw ∨ k = .ro) {S : Sig} {v : AV} {es n : Nat} {cs : List AV} : Has (⟨k, v, es, n, cs⟩ :: S) v es n cs := by
  rcases h with rfl | rfl
  · exact .rw
  · exact .ro

theorem has_memk {S : Sig} {c : Ch} (hc : c ∈ S) (h : c.k = .rw ∨ c.k = .ro) : Has S c.v c.es c.n c.cs := by
  induction S with
  | nil => simp at hc
  | cons d S ih =>
    rcases List.mem_cons.1 hc with rfl | hc
    · obtain ⟨k, v, es, n, cs⟩ := c
      exact has_k h
    · exact .tail (ih hc)
/- windows: parts of a slice that has no room behind them -/

def winV : AV → Nat → Nat → AV
  | .slice id off _ _ es, l, h => .slice id (off + l * es) (h - l) (some (h - l)) es
  | v, _, _ => v

theorem winV_bid {v : AV} {l h j : Nat} (hj : (winV v l h).bid = some j) : v.bid = some j := by
  cases v <;> first | exact hj | (simp [winV, AV.bid] at hj; done)

theorem stp_sl3 {A : Heap} {X : List Nat} {E : List (Nat × AV)} {S : Sig} {x lo hi mx : MX} {v : AV} {k n l h : Nat} {cs : List AV} (hx : evE E x = some v) (hl : evE E lo = some (.int .i64 (l : Int))) (hh : evE E hi = some (.int .i64 (h : Int))) (hm : evE E mx = some (.int .i64 (h : Int))) (hs : Has S v k n cs) (hb : l ≤ h ∧ h ≤ n) :
    Stp A X E S (.sl x (some lo) (some hi) (some mx) k) (Is (winV v l h) S) :=
  stp_pure fun τ H m nid hE hS => by
    have hv := hS.valsA hs
    have b1 : ∀ d, bnd n (some (AV.int .i64 (h : Int))) d = some h := by
      intro d; simp only [bnd]; rw [if_pos (by omega)]; simp
    have b2 : ∀ d, bnd h (some (AV.int .i64 (h : Int))) d = some h := by
      intro d; simp only [bnd]; rw [if_pos (by omega)]; simp
    have b3 : ∀ d, bnd h (some (AV.int .i64 (l : Int))) d = some l := by
      intro d; simp only [bnd]; rw [if_pos (by omega)]; simp
    simp only [mstep, ev_of hE hx, Option.map_some, ev_of hE hl, ev_of hE hh, ev_of hE hm, msl, hv.len, b1, b2, b3]
    cases v with
    | slice id off n' cap es =>
      have e2 : es = k := by
        rcases hv.esn with h | h
        · cases h
        · simpa [AV.es] using h
      subst e2
      simp [winV]
    | nilSlice => rfl
    | _ => exact absurd hv.sl (by simp [AV.isSlice])

theorem vals_win {α : Type} {c : α → List AV} {k : Nat} (hc : Cels c k) {H : Heap} {v : AV} {n l h : Nat} {L : List α} (hv : Vals H v k n (cellsK c L)) (hn : n = L.length) (hl : l ≤ h ∧ h ≤ n) : Vals H (winV v l h) k (h - l) (cellsK c ((L.drop l).take (h - l))) := by
  have hcl : (cellsK c ((L.drop l).take (h - l))).length = (h - l) * k := by rw [ck_len hc, List.length_take, List.length_drop, ← hn, Nat.min_eq_left (by omega)]
  cases v with
  | slice id off n' cap es =>
    have e1 : n' = n := hv.len
    have e2 : es = k := by
      rcases hv.esn with h | h
      · cases h
      · simpa [AV.es] using h
    subst e1; subst e2
    refine ⟨rfl, rfl, .inr rfl, hcl, ?_, fun j hj => hv.bid j (winV_bid hj)⟩
    have hr := hv.row
    simp only [winV, Heap.row] at hr ⊢
    by_cases h0 : h - l = 0
    · rw [if_pos h0, h0]; rfl
    · rw [if_neg (by omega)] at hr
      rw [if_neg h0]
      simp only [Heap.read] at hr ⊢
      split at hr
      · rename_i b hb
        split at hr
        · rename_i h1
          simp only [Option.some.injEq] at hr
          have hm : l * es + (h - l) * es = h * es := by rw [← Nat.add_mul]; congr 1; omega
          have hm2 : h * es ≤ n' * es := Nat.mul_le_mul_right es hl.2
          rw [if_pos (by omega), ← ck_take hc, ← ck_drop hc, ← hr, List.drop_take, List.drop_drop, List.take_take, Nat.min_eq_left (by omega)]
        · cases hr
      · cases hr
  | nilSlice =>
    have e1 : 0 = n := hv.len
    subst e1
    have : L = [] := List.eq_nil_of_length_eq_zero hn.symm
    subst this
    obtain rfl : l = 0 := by omega
    obtain rfl : h = 0 := by omega
    exact hv
  | _ => exact absurd hv.sl (by simp [AV.isSlice])

end Go.Rx.Try
