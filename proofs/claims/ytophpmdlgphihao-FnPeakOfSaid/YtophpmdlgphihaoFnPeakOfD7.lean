import Derived.Test.YtophpmdlgphihaoFnPeakOfD6
namespace Go.Rx.Try
open Go.Proofs
set_option maxRecDepth 100000
set_option maxHeartbeats 8000000
set_option linter.unusedSimpArgs false
set_option linter.unusedVariables false

theorem putBehind_ok {A : Heap} {X : List Nat} {S0 : Sig} {H : Heap} {w : AV} {xs ws : List Int} {e : Nat} {st : List BK} (hL : Loads xs ws) (he : e < xs.length) (hS : SOk A X (⟨.ro, w, 2, e + 1 - e, pns (wnL xs ws e (e + 1))⟩ :: (stkS xs ws st ++ S0)) H.size H) (hw : ∃ id off, w = .slice id off (e + 1 - e) (some (e + 1 - e)) 2) (hok : stkOk st e) :
    ACalls Try.prog fn_impl_putBehind [aheadV st, w] H fun r H' => ∃ st' : List BK, r = aheadV st' ∧ SOk A X (stkS xs ws st' ++ S0) H'.size H' ∧ (stkOk st' (e + 1) ∧ st'.map (·.s) = popS (rS xs ws) (rW ws) (e + 1) (e :: st.map (·.s))) := by
  refine hc_goS code_impl_putBehind hS (by simp) ?_
  unfold mc_impl_putBehind
  -- alt: refine gq_is rfl (stp_peqN rfl rfl) ?_
  have hwo : OneC w := by obtain ⟨i, o, rfl⟩ := hw; exact ⟨rfl, rfl⟩
  have hao := ahead_one st
  have hn := hL.2.2.2.2
  (repeat (first | refine gst (hk := ?_) | (with_reducible refine gc_drq ?_; intro _) | (with_reducible first | (refine gc_drw (h := ?_); intro _) | (refine gc_drw2 (h := ?_); intro _)) | (refine gq_is rfl (stp_peqN rfl rfl) ?_) | (show GO _ _ _ _ _ (⟨some _, none, _⟩ :: _) _; first | refine go_op (hk := ?_) | (refine go_nw (hk := ?_); intro u; try simp only [llc, lln, lna, lza]) | (refine go_np (hk := ?_); intro id)) | (show GQ _ _ _ _ _ _ _ (⟨some _, none, _⟩ :: _) _; first | refine gq_op (hk := ?_) | (refine gq_nw (hk := ?_); intro u; try simp only [llc, lln, lna, lza])) | (show GD _ _ _ _ _ _ _ (⟨some _, none, _⟩ :: _) _; first | refine gd_op (hk := ?_) | (refine gd_nw (hk := ?_); intro u; try simp only [llc, lln, lna, lza])) | (show GD2 _ _ _ _ _ _ _ _ _ _ _ _ _ _; first | refine gd2_nil rfl ?_ | refine gd2_op (hk := ?_) | (refine gd2_nw (hk := ?_); intro u; try simp only [llc, lln, lna, lza]) | refine gd2_l (hk := ?_) | refine gd2_lp (hk := ?_) | (refine gd2_newp (hk := ?_); intro id) | refine gd2_st (hk := ?_) | (refine gd2_bsl rfl rfl ?_; intro u; try simp only [llc, lln, lna, lza]) | (refine gd2_a (hk := ?_); intro u; try simp only [llc, lln, lna, lza])) | (show GO _ _ _ _ _ (⟨none, none, _⟩ :: _) _; refine go_st (hk := ?_)) | (show GD _ _ _ _ _ _ _ (⟨none, none, _⟩ :: _) _; refine gd_st (hk := ?_)) | (show GO _ _ _ _ _ (⟨_, some _, _⟩ :: _) _; first | refine go_in (hk := ?_) | refine go_out (hk := ?_) | refine go_void (hk := ?_)) | (show GQ _ _ _ _ _ _ _ (⟨_, some _, _⟩ :: _) _; first | refine gq_in (hk := ?_) | refine gq_out (hk := ?_) | refine gq_void (hk := ?_)) | (show GK _ _ _ _ (blockK _ _ _); refine gk_past rfl ?_) | (show GC _ _ _ _ _ (.cond _ _ _) _; first | refine gc_yes (h1 := ?_) | refine gc_no (h1 := ?_))))
  refine go_is rfl (stp_bld (l := [(0, 1, w), (1, 1, aheadV st)]) (cs := [w, aheadV st]) rfl (by simp [fillL, hwo.1, hwo.2, hao.1, hao.2])) ?_
  refine go_newp rfl (stp_box (cs := [w, aheadV st]) rfl rfl (by simp [hwo.2, hao.2])) ?_
  intro i8
  (repeat (first | refine gst (hk := ?_) | (with_reducible first | (refine gc_drw (h := ?_); intro _) | (refine gc_drw2 (h := ?_); intro _)) | (refine gq_is rfl (stp_peqN rfl rfl) ?_) | (show GO _ _ _ _ _ (⟨some _, none, _⟩ :: _) _; first | refine go_op (hk := ?_) | (refine go_nw (hk := ?_); intro u; try simp only [llc, lln, lna, lza]) | (refine go_np (hk := ?_); intro id)) | (show GQ _ _ _ _ _ _ _ (⟨some _, none, _⟩ :: _) _; first | refine gq_op (hk := ?_) | (refine gq_nw (hk := ?_); intro u; try simp only [llc, lln, lna, lza])) | (show GD _ _ _ _ _ _ _ (⟨some _, none, _⟩ :: _) _; first | refine gd_op (hk := ?_) | (refine gd_nw (hk := ?_); intro u; try simp only [llc, lln, lna, lza])) | (show GD2 _ _ _ _ _ _ _ _ _ _ _ _ _ _; first | refine gd2_nil rfl ?_ | refine gd2_op (hk := ?_) | (refine gd2_nw (hk := ?_); intro u; try simp only [llc, lln, lna, lza]) | refine gd2_l (hk := ?_) | refine gd2_lp (hk := ?_) | (refine gd2_newp (hk := ?_); intro id) | refine gd2_st (hk := ?_) | (refine gd2_bsl rfl rfl ?_; intro u; try simp only [llc, lln, lna, lza]) | (refine gd2_a (hk := ?_); intro u; try simp only [llc, lln, lna, lza])) | (show GO _ _ _ _ _ (⟨none, none, _⟩ :: _) _; refine go_st (hk := ?_)) | (show GD _ _ _ _ _ _ _ (⟨none, none, _⟩ :: _) _; refine gd_st (hk := ?_)) | (show GO _ _ _ _ _ (⟨_, some _, _⟩ :: _) _; first | refine go_in (hk := ?_) | refine go_out (hk := ?_) | refine go_void (hk := ?_)) | (show GQ _ _ _ _ _ _ _ (⟨_, some _, _⟩ :: _) _; first | refine gq_in (hk := ?_) | refine gq_out (hk := ?_) | refine gq_void (hk := ?_)) | (show GK _ _ _ _ (blockK _ _ _); refine gk_past rfl ?_) | (show GC _ _ _ _ _ (.cond _ _ _) _; first | refine gc_yes (h1 := ?_) | refine gc_no (h1 := ?_))))
  refine gc_loop (γ := List BK) (fun s => [(0, aheadV s)]) (fun s => stkS xs ws s ++ S0) (fun s => s ≠ [] ∧ stkOk s (e + 1) ∧ popS (rS xs ws) (rW ws) (e + 1) (s.map (·.s)) = popS (rS xs ws) (rW ws) (e + 1) (e :: st.map (·.s))) (fun s => s.length) (⟨i8, .ro, w, e, e + 1⟩ :: st) ⟨by simp, ⟨rfl, by dsimp only; omega, .inr ⟨rfl, hw⟩, hok⟩, rfl⟩ (hS := sub_refl _) (hb := ?_)
  rintro st1 ⟨hne, hok1, hp1⟩ I ν μ hk
  match st1, hne with
  | [⟨bi, bk, bv, bs, be⟩], _ =>
    simp only [stkOk] at hok1
    obtain ⟨rfl, h2, h3, h4⟩ := hok1
    refine gc_keep [(0, .ptr bi 0)] (⟨.cell, .ptr bi 0, 2, 1, [bv, .nilPtr]⟩ :: ⟨bk, bv, 2, e + 1 - bs, pns (wnL xs ws bs (e + 1))⟩ :: S0) (by (repeat (refine Cov.cons (by exact rfl) ?_)); exact Cov.nil) (sub_refl _) ?_
    (repeat (first | refine gst (hk := ?_) | (with_reducible first | (refine gc_drw (h := ?_); intro _) | (refine gc_drw2 (h := ?_); intro _)) | (refine gq_is rfl (stp_peqN rfl rfl) ?_) | (show GO _ _ _ _ _ (⟨some _, none, _⟩ :: _) _; first | refine go_op (hk := ?_) | (refine go_nw (hk := ?_); intro u; try simp only [llc, lln, lna, lza]) | (refine go_np (hk := ?_); intro id)) | (show GQ _ _ _ _ _ _ _ (⟨some _, none, _⟩ :: _) _; first | refine gq_op (hk := ?_) | (refine gq_nw (hk := ?_); intro u; try simp only [llc, lln, lna, lza])) | (show GD _ _ _ _ _ _ _ (⟨some _, none, _⟩ :: _) _; first | refine gd_op (hk := ?_) | (refine gd_nw (hk := ?_); intro u; try simp only [llc, lln, lna, lza])) | (show GD2 _ _ _ _ _ _ _ _ _ _ _ _ _ _; first | refine gd2_nil rfl ?_ | refine gd2_op (hk := ?_) | (refine gd2_nw (hk := ?_); intro u; try simp only [llc, lln, lna, lza]) | refine gd2_l (hk := ?_) | refine gd2_lp (hk := ?_) | (refine gd2_newp (hk := ?_); intro id) | refine gd2_st (hk := ?_) | (refine gd2_bsl rfl rfl ?_; intro u; try simp only [llc, lln, lna, lza]) | (refine gd2_a (hk := ?_); intro u; try simp only [llc, lln, lna, lza])) | (show GO _ _ _ _ _ (⟨none, none, _⟩ :: _) _; refine go_st (hk := ?_)) | (show GD _ _ _ _ _ _ _ (⟨none, none, _⟩ :: _) _; refine gd_st (hk := ?_)) | (show GO _ _ _ _ _ (⟨_, some _, _⟩ :: _) _; first | refine go_in (hk := ?_) | refine go_out (hk := ?_) | refine go_void (hk := ?_)) | (show GQ _ _ _ _ _ _ _ (⟨_, some _, _⟩ :: _) _; first | refine gq_in (hk := ?_) | refine gq_out (hk := ?_) | refine gq_void (hk := ?_)) | (show GK _ _ _ _ (blockK _ _ _); refine gk_past rfl ?_) | (show GC _ _ _ _ _ (.cond _ _ _) _; first | refine gc_yes (h1 := ?_) | refine gc_no (h1 := ?_))))
    refine gc_drqt (fun _ _ _ => none) (fun _ _ => fun f args r h => by cases h) (fun H0 => ?_)
    (repeat (first | refine gst (hk := ?_) | (with_reducible first | (refine gc_drw (h := ?_); intro _) | (refine gc_drw2 (h := ?_); intro _)) | (refine gq_is rfl (stp_peqN rfl rfl) ?_) | (show GO _ _ _ _ _ (⟨some _, none, _⟩ :: _) _; first | refine go_op (hk := ?_) | (refine go_nw (hk := ?_); intro u; try simp only [llc, lln, lna, lza]) | (refine go_np (hk := ?_); intro id)) | (show GQ _ _ _ _ _ _ _ (⟨some _, none, _⟩ :: _) _; first | refine gq_op (hk := ?_) | (refine gq_nw (hk := ?_); intro u; try simp only [llc, lln, lna, lza])) | (show GD _ _ _ _ _ _ _ (⟨some _, none, _⟩ :: _) _; first | refine gd_op (hk := ?_) | (refine gd_nw (hk := ?_); intro u; try simp only [llc, lln, lna, lza])) | (show GD2 _ _ _ _ _ _ _ _ _ _ _ _ _ _; first | refine gd2_nil rfl ?_ | refine gd2_op (hk := ?_) | (refine gd2_nw (hk := ?_); intro u; try simp only [llc, lln, lna, lza]) | refine gd2_l (hk := ?_) | refine gd2_lp (hk := ?_) | (refine gd2_newp (hk := ?_); intro id) | refine gd2_st (hk := ?_) | (refine gd2_bsl rfl rfl ?_; intro u; try simp only [llc, lln, lna, lza]) | (refine gd2_a (hk := ?_); intro u; try simp only [llc, lln, lna, lza])) | (show GO _ _ _ _ _ (⟨none, none, _⟩ :: _) _; refine go_st (hk := ?_)) | (show GD _ _ _ _ _ _ _ (⟨none, none, _⟩ :: _) _; refine gd_st (hk := ?_)) | (show GO _ _ _ _ _ (⟨_, some _, _⟩ :: _) _; first | refine go_in (hk := ?_) | refine go_out (hk := ?_) | refine go_void (hk := ?_)) | (show GQ _ _ _ _ _ _ _ (⟨_, some _, _⟩ :: _) _; first | refine gq_in (hk := ?_) | refine gq_out (hk := ?_) | refine gq_void (hk := ?_)) | (show GK _ _ _ _ (blockK _ _ _); refine gk_past rfl ?_) | (show GC _ _ _ _ _ (.cond _ _ _) _; first | refine gc_yes (h1 := ?_) | refine gc_no (h1 := ?_))))
    refine gk_ret rfl fun H' hH => ⟨[⟨bi, bk, bv, bs, e + 1⟩], rfl, hH, ⟨rfl, h2, h3, h4⟩, ?_⟩
    rw [← hp1]; rfl
  | ⟨bi, bk, bv, bs, be⟩ :: ⟨ci, ck, cv, cs, ce⟩ :: r, _ =>
    simp only [stkOk] at hok1
    obtain ⟨rfl, h2, h3, rfl, h5, h6, h7⟩ := hok1
    refine gc_keep [(0, .ptr bi 0)] (⟨.cell, .ptr bi 0, 2, 1, [bv, .ptr ci 0]⟩ :: ⟨bk, bv, 2, e + 1 - ce, pns (wnL xs ws ce (e + 1))⟩ :: ⟨.cell, .ptr ci 0, 2, 1, [cv, aheadV r]⟩ :: ⟨ck, cv, 2, ce - cs, pns (wnL xs ws cs ce)⟩ :: (stkS xs ws r ++ S0)) (by (repeat (refine Cov.cons (by exact rfl) ?_)); exact Cov.nil) (sub_refl _) ?_
    have k3 := h3.kd
    have k6 := h6.kd
    simp only at k3 k6
    refine gc_know (p := [bv] ≠ [cv] ∨ frV (mnR xs ws ce (e + 1)) = frV (mnR xs ws cs ce)) (fun m H hH => ?_) (fun hdif => ?_)
    · by_cases hv : [bv] = [cv]
      · injection hv with hv
        refine .inr (congrArg frV (mn_vals (v := bv) (hH.valsA (.tail (has_k k3))) ?_ (by omega) (by omega) (by omega) (by omega)))
        rw [hv]
        exact hH.valsA (.tail (.tail (.tail (has_k k6))))
      · exact .inl hv
    (repeat (first | refine gst (hk := ?_) | (with_reducible first | (refine gc_drw (h := ?_); intro _) | (refine gc_drw2 (h := ?_); intro _)) | (refine gq_is rfl (stp_peqN rfl rfl) ?_) | (show GO _ _ _ _ _ (⟨some _, none, _⟩ :: _) _; first | refine go_op (hk := ?_) | (refine go_nw (hk := ?_); intro u; try simp only [llc, lln, lna, lza]) | (refine go_np (hk := ?_); intro id)) | (show GQ _ _ _ _ _ _ _ (⟨some _, none, _⟩ :: _) _; first | refine gq_op (hk := ?_) | (refine gq_nw (hk := ?_); intro u; try simp only [llc, lln, lna, lza])) | (show GD _ _ _ _ _ _ _ (⟨some _, none, _⟩ :: _) _; first | refine gd_op (hk := ?_) | (refine gd_nw (hk := ?_); intro u; try simp only [llc, lln, lna, lza])) | (show GD2 _ _ _ _ _ _ _ _ _ _ _ _ _ _; first | refine gd2_nil rfl ?_ | refine gd2_op (hk := ?_) | (refine gd2_nw (hk := ?_); intro u; try simp only [llc, lln, lna, lza]) | refine gd2_l (hk := ?_) | refine gd2_lp (hk := ?_) | (refine gd2_newp (hk := ?_); intro id) | refine gd2_st (hk := ?_) | (refine gd2_bsl rfl rfl ?_; intro u; try simp only [llc, lln, lna, lza]) | (refine gd2_a (hk := ?_); intro u; try simp only [llc, lln, lna, lza])) | (show GO _ _ _ _ _ (⟨none, none, _⟩ :: _) _; refine go_st (hk := ?_)) | (show GD _ _ _ _ _ _ _ (⟨none, none, _⟩ :: _) _; refine gd_st (hk := ?_)) | (show GO _ _ _ _ _ (⟨_, some _, _⟩ :: _) _; first | refine go_in (hk := ?_) | refine go_out (hk := ?_) | refine go_void (hk := ?_)) | (show GQ _ _ _ _ _ _ _ (⟨_, some _, _⟩ :: _) _; first | refine gq_in (hk := ?_) | refine gq_out (hk := ?_) | refine gq_void (hk := ?_)) | (show GK _ _ _ _ (blockK _ _ _); refine gk_past rfl ?_) | (show GC _ _ _ _ _ (.cond _ _ _) _; first | refine gc_yes (h1 := ?_) | refine gc_no (h1 := ?_))))
    refine gc_drqt (fun _ => qtTab [(fn_impl_meanOf, dTwo [cv] (frV (mnR xs ws cs ce)) [bv] (frV (mnR xs ws ce (e + 1)))), (fn_impl_Frac_compare, dOne [frV (mnR xs ws cs ce), frV (mnR xs ws ce (e + 1))] (.int .i64 (cmR (mnR xs ws cs ce) (mnR xs ws ce (e + 1)))))]) (fun H hH => qtTab_cons (dTwo_ok code_impl_meanOf.callable (meanOf_ok (hH.valsA (.tail (.tail (.tail (has_k k6))))) hL (by omega) (by omega)) (meanOf_ok (hH.valsA (.tail (has_k k3))) hL (by omega) (by omega))) (qtTab_cons (dOne_ok code_impl_Frac_compare.callable (implCompare_ok (hL.fits (by omega) (by omega) (by omega) (by omega)))) qtTab_nil)) (fun H0 => ?_)
    (repeat (first | refine gst (hk := ?_) | (with_reducible first | (refine gc_drw (h := ?_); intro _) | (refine gc_drw2 (h := ?_); intro _)) | (refine gq_is rfl (stp_peqN rfl rfl) ?_) | (show GO _ _ _ _ _ (⟨some _, none, _⟩ :: _) _; first | refine go_op (hk := ?_) | (refine go_nw (hk := ?_); intro u; try simp only [llc, lln, lna, lza]) | (refine go_np (hk := ?_); intro id)) | (show GQ _ _ _ _ _ _ _ (⟨some _, none, _⟩ :: _) _; first | refine gq_op (hk := ?_) | (refine gq_nw (hk := ?_); intro u; try simp only [llc, lln, lna, lza])) | (show GD _ _ _ _ _ _ _ (⟨some _, none, _⟩ :: _) _; first | refine gd_op (hk := ?_) | (refine gd_nw (hk := ?_); intro u; try simp only [llc, lln, lna, lza])) | (show GD2 _ _ _ _ _ _ _ _ _ _ _ _ _ _; first | refine gd2_nil rfl ?_ | refine gd2_op (hk := ?_) | (refine gd2_nw (hk := ?_); intro u; try simp only [llc, lln, lna, lza]) | refine gd2_l (hk := ?_) | refine gd2_lp (hk := ?_) | (refine gd2_newp (hk := ?_); intro id) | refine gd2_st (hk := ?_) | (refine gd2_bsl rfl rfl ?_; intro u; try simp only [llc, lln, lna, lza]) | (refine gd2_a (hk := ?_); intro u; try simp only [llc, lln, lna, lza])) | (show GO _ _ _ _ _ (⟨none, none, _⟩ :: _) _; refine go_st (hk := ?_)) | (show GD _ _ _ _ _ _ _ (⟨none, none, _⟩ :: _) _; refine gd_st (hk := ?_)) | (show GO _ _ _ _ _ (⟨_, some _, _⟩ :: _) _; first | refine go_in (hk := ?_) | refine go_out (hk := ?_) | refine go_void (hk := ?_)) | (show GQ _ _ _ _ _ _ _ (⟨_, some _, _⟩ :: _) _; first | refine gq_in (hk := ?_) | refine gq_out (hk := ?_) | refine gq_void (hk := ?_)) | (show GK _ _ _ _ (blockK _ _ _); refine gk_past rfl ?_) | (show GC _ _ _ _ _ (.cond _ _ _) _; first | refine gc_yes (h1 := ?_) | refine gc_no (h1 := ?_))))
    refine gq_call rfl (fun _ => dTwo_fst) ?_
    (repeat (first | refine gst (hk := ?_) | (with_reducible first | (refine gc_drw (h := ?_); intro _) | (refine gc_drw2 (h := ?_); intro _)) | (refine gq_is rfl (stp_peqN rfl rfl) ?_) | (show GO _ _ _ _ _ (⟨some _, none, _⟩ :: _) _; first | refine go_op (hk := ?_) | (refine go_nw (hk := ?_); intro u; try simp only [llc, lln, lna, lza]) | (refine go_np (hk := ?_); intro id)) | (show GQ _ _ _ _ _ _ _ (⟨some _, none, _⟩ :: _) _; first | refine gq_op (hk := ?_) | (refine gq_nw (hk := ?_); intro u; try simp only [llc, lln, lna, lza])) | (show GD _ _ _ _ _ _ _ (⟨some _, none, _⟩ :: _) _; first | refine gd_op (hk := ?_) | (refine gd_nw (hk := ?_); intro u; try simp only [llc, lln, lna, lza])) | (show GD2 _ _ _ _ _ _ _ _ _ _ _ _ _ _; first | refine gd2_nil rfl ?_ | refine gd2_op (hk := ?_) | (refine gd2_nw (hk := ?_); intro u; try simp only [llc, lln, lna, lza]) | refine gd2_l (hk := ?_) | refine gd2_lp (hk := ?_) | (refine gd2_newp (hk := ?_); intro id) | refine gd2_st (hk := ?_) | (refine gd2_bsl rfl rfl ?_; intro u; try simp only [llc, lln, lna, lza]) | (refine gd2_a (hk := ?_); intro u; try simp only [llc, lln, lna, lza])) | (show GO _ _ _ _ _ (⟨none, none, _⟩ :: _) _; refine go_st (hk := ?_)) | (show GD _ _ _ _ _ _ _ (⟨none, none, _⟩ :: _) _; refine gd_st (hk := ?_)) | (show GO _ _ _ _ _ (⟨_, some _, _⟩ :: _) _; first | refine go_in (hk := ?_) | refine go_out (hk := ?_) | refine go_void (hk := ?_)) | (show GQ _ _ _ _ _ _ _ (⟨_, some _, _⟩ :: _) _; first | refine gq_in (hk := ?_) | refine gq_out (hk := ?_) | refine gq_void (hk := ?_)) | (show GK _ _ _ _ (blockK _ _ _); refine gk_past rfl ?_) | (show GC _ _ _ _ _ (.cond _ _ _) _; first | refine gc_yes (h1 := ?_) | refine gc_no (h1 := ?_))))
    refine gq_call rfl (fun _ => dTwo_snd hdif) ?_
    (repeat (first | refine gst (hk := ?_) | (with_reducible first | (refine gc_drw (h := ?_); intro _) | (refine gc_drw2 (h := ?_); intro _)) | (refine gq_is rfl (stp_peqN rfl rfl) ?_) | (show GO _ _ _ _ _ (⟨some _, none, _⟩ :: _) _; first | refine go_op (hk := ?_) | (refine go_nw (hk := ?_); intro u; try simp only [llc, lln, lna, lza]) | (refine go_np (hk := ?_); intro id)) | (show GQ _ _ _ _ _ _ _ (⟨some _, none, _⟩ :: _) _; first | refine gq_op (hk := ?_) | (refine gq_nw (hk := ?_); intro u; try simp only [llc, lln, lna, lza])) | (show GD _ _ _ _ _ _ _ (⟨some _, none, _⟩ :: _) _; first | refine gd_op (hk := ?_) | (refine gd_nw (hk := ?_); intro u; try simp only [llc, lln, lna, lza])) | (show GD2 _ _ _ _ _ _ _ _ _ _ _ _ _ _; first | refine gd2_nil rfl ?_ | refine gd2_op (hk := ?_) | (refine gd2_nw (hk := ?_); intro u; try simp only [llc, lln, lna, lza]) | refine gd2_l (hk := ?_) | refine gd2_lp (hk := ?_) | (refine gd2_newp (hk := ?_); intro id) | refine gd2_st (hk := ?_) | (refine gd2_bsl rfl rfl ?_; intro u; try simp only [llc, lln, lna, lza]) | (refine gd2_a (hk := ?_); intro u; try simp only [llc, lln, lna, lza])) | (show GO _ _ _ _ _ (⟨none, none, _⟩ :: _) _; refine go_st (hk := ?_)) | (show GD _ _ _ _ _ _ _ (⟨none, none, _⟩ :: _) _; refine gd_st (hk := ?_)) | (show GO _ _ _ _ _ (⟨_, some _, _⟩ :: _) _; first | refine go_in (hk := ?_) | refine go_out (hk := ?_) | refine go_void (hk := ?_)) | (show GQ _ _ _ _ _ _ _ (⟨_, some _, _⟩ :: _) _; first | refine gq_in (hk := ?_) | refine gq_out (hk := ?_) | refine gq_void (hk := ?_)) | (show GK _ _ _ _ (blockK _ _ _); refine gk_past rfl ?_) | (show GC _ _ _ _ _ (.cond _ _ _) _; first | refine gc_yes (h1 := ?_) | refine gc_no (h1 := ?_))))
    refine gq_call rfl (fun _ => dOne_is) ?_
    (repeat (first | refine gst (hk := ?_) | (with_reducible first | (refine gc_drw (h := ?_); intro _) | (refine gc_drw2 (h := ?_); intro _)) | (refine gq_is rfl (stp_peqN rfl rfl) ?_) | (show GO _ _ _ _ _ (⟨some _, none, _⟩ :: _) _; first | refine go_op (hk := ?_) | (refine go_nw (hk := ?_); intro u; try simp only [llc, lln, lna, lza]) | (refine go_np (hk := ?_); intro id)) | (show GQ _ _ _ _ _ _ _ (⟨some _, none, _⟩ :: _) _; first | refine gq_op (hk := ?_) | (refine gq_nw (hk := ?_); intro u; try simp only [llc, lln, lna, lza])) | (show GD _ _ _ _ _ _ _ (⟨some _, none, _⟩ :: _) _; first | refine gd_op (hk := ?_) | (refine gd_nw (hk := ?_); intro u; try simp only [llc, lln, lna, lza])) | (show GD2 _ _ _ _ _ _ _ _ _ _ _ _ _ _; first | refine gd2_nil rfl ?_ | refine gd2_op (hk := ?_) | (refine gd2_nw (hk := ?_); intro u; try simp only [llc, lln, lna, lza]) | refine gd2_l (hk := ?_) | refine gd2_lp (hk := ?_) | (refine gd2_newp (hk := ?_); intro id) | refine gd2_st (hk := ?_) | (refine gd2_bsl rfl rfl ?_; intro u; try simp only [llc, lln, lna, lza]) | (refine gd2_a (hk := ?_); intro u; try simp only [llc, lln, lna, lza])) | (show GO _ _ _ _ _ (⟨none, none, _⟩ :: _) _; refine go_st (hk := ?_)) | (show GD _ _ _ _ _ _ _ (⟨none, none, _⟩ :: _) _; refine gd_st (hk := ?_)) | (show GO _ _ _ _ _ (⟨_, some _, _⟩ :: _) _; first | refine go_in (hk := ?_) | refine go_out (hk := ?_) | refine go_void (hk := ?_)) | (show GQ _ _ _ _ _ _ _ (⟨_, some _, _⟩ :: _) _; first | refine gq_in (hk := ?_) | refine gq_out (hk := ?_) | refine gq_void (hk := ?_)) | (show GK _ _ _ _ (blockK _ _ _); refine gk_past rfl ?_) | (show GC _ _ _ _ _ (.cond _ _ _) _; first | refine gc_yes (h1 := ?_) | refine gc_no (h1 := ?_))))
    refine gc_cond rfl (fun hc => ?_) (fun hc => ?_)
    · have hge : ¬ mnA (rS xs ws) (rW ws) cs ce < mnA (rS xs ws) (rW ws) ce (e + 1) := by
        rw [mnR_mnA, mnR_mnA]
        intro hlt
        have := cmR_neg.2 hlt
        omega
      repeat (refine gst (hk := ?_))
      rcases h6 with h6 | ⟨h6, iw, ow, h8⟩
      · simp only at h6
        subst h6
        refine gc_drw4 (fun _ _ => none) (fun H0 hH0 => ?_)
        repeat (refine gd4_op (hk := ?_))
        refine gd4_ld (u := .ptr bi (0 + 1)) rfl (stp_ldc rfl (by exact Sel.auto) rfl rfl) ?_
        repeat (refine gd4_op (hk := ?_))
        refine gd4_ld (u := .ptr bi (0 + 1)) rfl (stp_ldc rfl (by exact Sel.auto) rfl rfl) ?_
        repeat (refine gd4_op (hk := ?_))
        refine gd4_ld (u := .ptr ci (0 + 0)) rfl (stp_ldc rfl (by exact Sel.auto) rfl rfl) ?_
        repeat (refine gd4_op (hk := ?_))
        refine gd4_ld (u := .ptr bi (0 + 0)) rfl (stp_ldc rfl (by exact Sel.auto) rfl rfl) ?_
        refine gd4_app rfl rfl (stp_app (v := cv) (es := 2) (n := ce - cs) (m' := e + 1 - ce) (cs := pns (wnL xs ws cs ce)) (news := pns (wnL xs ws ce (e + 1))) rfl rfl (by exact Sel.auto) (.tail (has_k k3)) (ck_one cels_pn _) (by omega) (by omega) (by omega)) ?_
        intro u
        rw [← ck_app, wn_join ⟨by omega, by omega⟩, show ce - cs + (e + 1 - ce) = e + 1 - cs by omega]
        refine gd4_know (p := OneC u) (fun m H hH => one_slice (hH.valsA .rw)) (fun hu => ?_)
        repeat (refine gd4_op (hk := ?_))
        refine gd4_st (u := .ptr ci (0 + 0)) rfl (stp_st20 rfl rfl hu.1 hu.2 (by exact Sel.auto)) ?_
        have hb1 := (hH0.ch _ (by exact List.mem_cons_self)).1 bi rfl
        have hb2 := (List.pairwise_cons.1 hH0.ap).1 ⟨.rw, cv, 2, ce - cs, pns (wnL xs ws cs ce)⟩ (by simp) (.inl rfl) bi rfl
        have hsl := (hH0.valsA (v := cv) (.tail (.tail (.tail (has_k k6))))).sl
        refine gd4_nil (pairs_ap (a := bi) (k := H0.size + 15) (t := vid cv) rfl rfl (by omega) (fun h => hb2 (vid_slice hsl h)) trivial) (fun H _ f args r h => by cases h) ?_
        (repeat (first | refine gst (hk := ?_) | (with_reducible first | (refine gc_drw (h := ?_); intro _) | (refine gc_drw2 (h := ?_); intro _)) | (refine gq_is rfl (stp_peqN rfl rfl) ?_) | (show GO _ _ _ _ _ (⟨some _, none, _⟩ :: _) _; first | refine go_op (hk := ?_) | (refine go_nw (hk := ?_); intro u; try simp only [llc, lln, lna, lza]) | (refine go_np (hk := ?_); intro id)) | (show GQ _ _ _ _ _ _ _ (⟨some _, none, _⟩ :: _) _; first | refine gq_op (hk := ?_) | (refine gq_nw (hk := ?_); intro u; try simp only [llc, lln, lna, lza])) | (show GD _ _ _ _ _ _ _ (⟨some _, none, _⟩ :: _) _; first | refine gd_op (hk := ?_) | (refine gd_nw (hk := ?_); intro u; try simp only [llc, lln, lna, lza])) | (show GD2 _ _ _ _ _ _ _ _ _ _ _ _ _ _; first | refine gd2_nil rfl ?_ | refine gd2_op (hk := ?_) | (refine gd2_nw (hk := ?_); intro u; try simp only [llc, lln, lna, lza]) | refine gd2_l (hk := ?_) | refine gd2_lp (hk := ?_) | (refine gd2_newp (hk := ?_); intro id) | refine gd2_st (hk := ?_) | (refine gd2_bsl rfl rfl ?_; intro u; try simp only [llc, lln, lna, lza]) | (refine gd2_a (hk := ?_); intro u; try simp only [llc, lln, lna, lza])) | (show GO _ _ _ _ _ (⟨none, none, _⟩ :: _) _; refine go_st (hk := ?_)) | (show GD _ _ _ _ _ _ _ (⟨none, none, _⟩ :: _) _; refine gd_st (hk := ?_)) | (show GO _ _ _ _ _ (⟨_, some _, _⟩ :: _) _; first | refine go_in (hk := ?_) | refine go_out (hk := ?_) | refine go_void (hk := ?_)) | (show GQ _ _ _ _ _ _ _ (⟨_, some _, _⟩ :: _) _; first | refine gq_in (hk := ?_) | refine gq_out (hk := ?_) | refine gq_void (hk := ?_)) | (show GK _ _ _ _ (blockK _ _ _); refine gk_past rfl ?_) | (show GC _ _ _ _ _ (.cond _ _ _) _; first | refine gc_yes (h1 := ?_) | refine gc_no (h1 := ?_))))
        refine gk_next (hk (⟨ci, .rw, u, cs, e + 1⟩ :: r) ⟨by simp, ⟨rfl, by dsimp only; omega, .inl rfl, h7⟩, ?_⟩ (by simp)) (hs := .cons .head (.cons .head (sub_drop (sub_drop (sub_refl _)))))
        rw [← hp1]
        exact (if_neg hge).symm
      · simp only at h6 h8
        subst h6
        subst h8
        refine gc_drw4 (fun _ _ => none) (fun H0 hH0 => ?_)
        repeat (refine gd4_op (hk := ?_))
        refine gd4_ld (u := .ptr bi (0 + 1)) rfl (stp_ldc rfl (by exact Sel.auto) rfl rfl) ?_
        repeat (refine gd4_op (hk := ?_))
        refine gd4_ld (u := .ptr bi (0 + 1)) rfl (stp_ldc rfl (by exact Sel.auto) rfl rfl) ?_
        repeat (refine gd4_op (hk := ?_))
        refine gd4_ld (u := .ptr ci (0 + 0)) rfl (stp_ldc rfl (by exact Sel.auto) rfl rfl) ?_
        repeat (refine gd4_op (hk := ?_))
        refine gd4_ld (u := .ptr bi (0 + 0)) rfl (stp_ldc rfl (by exact Sel.auto) rfl rfl) ?_
        refine gd4_app rfl rfl (stp_appW (es := 2) (n := ce - cs) (m' := e + 1 - ce) (cs := pns (wnL xs ws cs ce)) (news := pns (wnL xs ws ce (e + 1))) rfl rfl (by exact Has.auto) (.tail (has_k k3)) (by omega) (by omega) (ck_one cels_pn _) (by omega) (by omega) (by omega)) ?_
        intro u
        rw [← ck_app, wn_join ⟨by omega, by omega⟩, show ce - cs + (e + 1 - ce) = e + 1 - cs by omega]
        refine gd4_know (p := OneC u) (fun m H hH => one_slice (hH.valsA .rw)) (fun hu => ?_)
        repeat (refine gd4_op (hk := ?_))
        refine gd4_st (u := .ptr ci (0 + 0)) rfl (stp_st20 rfl rfl hu.1 hu.2 (by exact Sel.auto)) ?_
        have hb1 := (hH0.ch _ (by exact List.mem_cons_self)).1 bi rfl
        have hb2 := (List.pairwise_cons.1 hH0.ap).1 ⟨.ro, .slice iw ow (ce - cs) (some (ce - cs)) 2, 2, ce - cs, pns (wnL xs ws cs ce)⟩ (by simp) (.inl rfl) bi rfl
        have hsl := (hH0.valsA  (.tail (.tail (.tail (has_k k6))))).sl
        refine gd4_nil (pairs_ap (a := bi) (k := H0.size + 15) (t := [iw]) rfl rfl (by omega) (fun h => hb2 (vid_slice hsl h)) trivial) (fun H _ f args r h => by cases h) ?_
        (repeat (first | refine gst (hk := ?_) | (with_reducible first | (refine gc_drw (h := ?_); intro _) | (refine gc_drw2 (h := ?_); intro _)) | (refine gq_is rfl (stp_peqN rfl rfl) ?_) | (show GO _ _ _ _ _ (⟨some _, none, _⟩ :: _) _; first | refine go_op (hk := ?_) | (refine go_nw (hk := ?_); intro u; try simp only [llc, lln, lna, lza]) | (refine go_np (hk := ?_); intro id)) | (show GQ _ _ _ _ _ _ _ (⟨some _, none, _⟩ :: _) _; first | refine gq_op (hk := ?_) | (refine gq_nw (hk := ?_); intro u; try simp only [llc, lln, lna, lza])) | (show GD _ _ _ _ _ _ _ (⟨some _, none, _⟩ :: _) _; first | refine gd_op (hk := ?_) | (refine gd_nw (hk := ?_); intro u; try simp only [llc, lln, lna, lza])) | (show GD2 _ _ _ _ _ _ _ _ _ _ _ _ _ _; first | refine gd2_nil rfl ?_ | refine gd2_op (hk := ?_) | (refine gd2_nw (hk := ?_); intro u; try simp only [llc, lln, lna, lza]) | refine gd2_l (hk := ?_) | refine gd2_lp (hk := ?_) | (refine gd2_newp (hk := ?_); intro id) | refine gd2_st (hk := ?_) | (refine gd2_bsl rfl rfl ?_; intro u; try simp only [llc, lln, lna, lza]) | (refine gd2_a (hk := ?_); intro u; try simp only [llc, lln, lna, lza])) | (show GO _ _ _ _ _ (⟨none, none, _⟩ :: _) _; refine go_st (hk := ?_)) | (show GD _ _ _ _ _ _ _ (⟨none, none, _⟩ :: _) _; refine gd_st (hk := ?_)) | (show GO _ _ _ _ _ (⟨_, some _, _⟩ :: _) _; first | refine go_in (hk := ?_) | refine go_out (hk := ?_) | refine go_void (hk := ?_)) | (show GQ _ _ _ _ _ _ _ (⟨_, some _, _⟩ :: _) _; first | refine gq_in (hk := ?_) | refine gq_out (hk := ?_) | refine gq_void (hk := ?_)) | (show GK _ _ _ _ (blockK _ _ _); refine gk_past rfl ?_) | (show GC _ _ _ _ _ (.cond _ _ _) _; first | refine gc_yes (h1 := ?_) | refine gc_no (h1 := ?_))))
        refine gk_next (hk (⟨ci, .rw, u, cs, e + 1⟩ :: r) ⟨by simp, ⟨rfl, by dsimp only; omega, .inl rfl, h7⟩, ?_⟩ (by simp)) (hs := .cons .head (.cons .head (sub_drop (sub_drop (sub_drop (sub_refl _))))))
        rw [← hp1]
        exact (if_neg hge).symm
    · have hlt : mnA (rS xs ws) (rW ws) cs ce < mnA (rS xs ws) (rW ws) ce (e + 1) := by
        rw [mnR_mnA, mnR_mnA]
        exact cmR_neg.1 (by omega)
      (repeat (first | refine gst (hk := ?_) | (with_reducible first | (refine gc_drw (h := ?_); intro _) | (refine gc_drw2 (h := ?_); intro _)) | (refine gq_is rfl (stp_peqN rfl rfl) ?_) | (show GO _ _ _ _ _ (⟨some _, none, _⟩ :: _) _; first | refine go_op (hk := ?_) | (refine go_nw (hk := ?_); intro u; try simp only [llc, lln, lna, lza]) | (refine go_np (hk := ?_); intro id)) | (show GQ _ _ _ _ _ _ _ (⟨some _, none, _⟩ :: _) _; first | refine gq_op (hk := ?_) | (refine gq_nw (hk := ?_); intro u; try simp only [llc, lln, lna, lza])) | (show GD _ _ _ _ _ _ _ (⟨some _, none, _⟩ :: _) _; first | refine gd_op (hk := ?_) | (refine gd_nw (hk := ?_); intro u; try simp only [llc, lln, lna, lza])) | (show GD2 _ _ _ _ _ _ _ _ _ _ _ _ _ _; first | refine gd2_nil rfl ?_ | refine gd2_op (hk := ?_) | (refine gd2_nw (hk := ?_); intro u; try simp only [llc, lln, lna, lza]) | refine gd2_l (hk := ?_) | refine gd2_lp (hk := ?_) | (refine gd2_newp (hk := ?_); intro id) | refine gd2_st (hk := ?_) | (refine gd2_bsl rfl rfl ?_; intro u; try simp only [llc, lln, lna, lza]) | (refine gd2_a (hk := ?_); intro u; try simp only [llc, lln, lna, lza])) | (show GO _ _ _ _ _ (⟨none, none, _⟩ :: _) _; refine go_st (hk := ?_)) | (show GD _ _ _ _ _ _ _ (⟨none, none, _⟩ :: _) _; refine gd_st (hk := ?_)) | (show GO _ _ _ _ _ (⟨_, some _, _⟩ :: _) _; first | refine go_in (hk := ?_) | refine go_out (hk := ?_) | refine go_void (hk := ?_)) | (show GQ _ _ _ _ _ _ _ (⟨_, some _, _⟩ :: _) _; first | refine gq_in (hk := ?_) | refine gq_out (hk := ?_) | refine gq_void (hk := ?_)) | (show GK _ _ _ _ (blockK _ _ _); refine gk_past rfl ?_) | (show GC _ _ _ _ _ (.cond _ _ _) _; first | refine gc_yes (h1 := ?_) | refine gc_no (h1 := ?_))))
      refine gk_ret rfl fun H' hH => ⟨⟨bi, bk, bv, ce, e + 1⟩ :: ⟨ci, ck, cv, cs, ce⟩ :: r, rfl, hH, ⟨rfl, h2, h3, rfl, h5, h6, h7⟩, ?_⟩
      rw [← hp1]
      exact (if_pos hlt).symm

def bkL : List Nat → Nat → List (Nat × Nat)
  | [], _ => []
  | a :: r, e => bkL r a ++ [(a, e)]

abbrev rwCh (xs ws : List Int) (q : AV × Nat × Nat) : Ch := ⟨.ro, q.1, 2, q.2.2 - q.2.1, pns (wnL xs ws q.2.1 q.2.2)⟩

abbrev rwS (xs ws : List Int) (qs : List (AV × Nat × Nat)) : Sig := qs.map (rwCh xs ws)

abbrev rwO (u : AV) (qs : List (AV × Nat × Nat)) : Ch := ⟨.rw, u, 1, qs.length, qs.map (·.1)⟩

theorem stk_bk : ∀ {st : List BK} {e : Nat}, stkOk st e → (st.map fun b => (b.s, b.e)).reverse = bkL (st.map (·.s)) e
  | [], _, _ => rfl
  | b :: r, e, h => by
    obtain ⟨h1, _, _, h4⟩ := h
    rw [List.map_cons, List.reverse_cons, stk_bk h4, List.map_cons, bkL, h1]

theorem stk_len : ∀ {st : List BK} {e : Nat}, stkOk st e → st.length ≤ e
  | [], e, _ => Nat.zero_le _
  | b :: r, e, h => by
    obtain ⟨_, h2, _, h4⟩ := h
    have := stk_len h4
    rw [List.length_cons]; omega

theorem go_frz {P : Program} {A : Heap} {X : List Nat} {E : List (Nat × AV)} {S S0 : Sig} {K : St → Prop} {l : List MI} {k : Kd} {v : AV} {es n : Nat} {cs : List AV} (hk : k = .rw ∨ k = .ro) (hs : Sel S ⟨k, v, es, n, cs⟩ S0) (h : GO P A X E (⟨.ro, v, es, n, cs⟩ :: S0) l K) : GO P A X E S l K := by
  rcases hk with rfl | rfl
  · exact go_freeze hs h
  · exact go_sub (.cons hs (sub_refl _)) h

theorem slice_of {H : Heap} {v : AV} {es n : Nat} {cs : List AV} (h : Vals H v es n cs) (hn : 0 < n) : ∃ id off cap, v = .slice id off n cap es := by
  have h1 := h.sl
  have h2 := h.len
  have h3 := h.esz hn
  cases v <;> simp [AV.isSlice] at h1
  · simp only [AV.len] at h2; subst h2
    simp only [AV.es, Option.some.injEq] at h3; subst h3
    exact ⟨_, _, _, rfl⟩
  · simp only [AV.len] at h2; omega

theorem perm_rw {α : Type} (U q W C : α) (R Q S : List α) : ((U :: (R ++ ((Q ++ [q]) ++ S))) ++ [W, C]).Perm (q :: U :: W :: C :: (R ++ (Q ++ S))) := by
  have h1 : (R ++ ((Q ++ [q]) ++ S)).Perm (q :: (R ++ (Q ++ S))) := by
    rw [List.append_assoc Q, ← List.append_assoc R]
    exact (List.perm_middle (l₁ := R ++ Q) (l₂ := S) (a := q)).trans (by rw [List.append_assoc])
  have h2 : ((U :: (q :: (R ++ (Q ++ S)))) ++ [W, C]).Perm ([W, C] ++ (U :: (q :: (R ++ (Q ++ S))))) := List.perm_append_comm
  refine ((h1.cons U).append_right _).trans (h2.trans ?_)
  exact (List.perm_append_comm_assoc [W, C] [U, q] (R ++ (Q ++ S))).trans (List.Perm.swap _ _ _)

theorem risingBlocks_ok {A : Heap} {X : List Nat} {S : Sig} {H : Heap} {a : AV} {xs ws : List Int} (hS : SOk A X S H.size H) (hm : (⟨.ro, a, 2, xs.length, pns (ptL xs ws)⟩ : Ch) ∈ S) (hL : (xs = [] ∧ ws = []) ∨ Loads xs ws) :
    ACalls Try.prog fn_impl_risingBlocks [a] H fun r H' => ∃ g : AV × List (AV × Nat × Nat), r = g.1 ∧ SOk A X ((rwO g.1 g.2 :: rwS xs ws g.2) ++ S) H'.size H' ∧ g.2.map (·.2) = bkL (poS (rS xs ws) (rW ws) xs.length) xs.length := by
  have hn : xs.length ≤ 8 := by
    rcases hL with ⟨rfl, _⟩ | h
    · simp
    · exact h.2.2.2.2
  have hp : 0 < xs.length → Loads xs ws := fun h0 => by
    rcases hL with ⟨rfl, _⟩ | h
    · simp at h0
    · exact h
  have hmem : ∀ T : Sig, (⟨.ro, a, 2, xs.length, pns (ptL xs ws)⟩ : Ch) ∈ T ++ S := fun T => List.mem_append_right _ hm
  have hhas : ∀ T : Sig, Has (T ++ S) a 2 xs.length (pns (ptL xs ws)) := fun T => has_memk (c := ⟨.ro, a, 2, xs.length, pns (ptL xs ws)⟩) (hmem T) (.inr rfl)
  have hh0 : Has S a 2 xs.length (pns (ptL xs ws)) := hhas []
  refine hc_goS code_impl_risingBlocks hS (by simp) ?_
  unfold mc_impl_risingBlocks
  -- alt: refine go_is rfl (stp_peqN rfl rfl) ?_
  (repeat (first | refine gst (hk := ?_) | (refine go_is rfl (stp_peqN rfl rfl) ?_) | (show GO _ _ _ _ _ (⟨some _, none, _⟩ :: _) _; first | refine go_op (hk := ?_) | (refine go_nw (hk := ?_); intro u; try simp only [llc, lln, lna, lza]) | (refine go_np (hk := ?_); intro id)) | (show GO _ _ _ _ _ (⟨none, none, _⟩ :: _) _; refine go_st (hk := ?_)) | (show GO _ _ _ _ _ (⟨_, some _, _⟩ :: _) _; first | refine go_in (hk := ?_) | refine go_out (hk := ?_) | refine go_void (hk := ?_)) | (show GK _ _ _ _ (blockK _ _ _); refine gk_past rfl ?_) | (show GC _ _ _ _ _ (.cond _ _ _) _; first | refine gc_yes (h1 := ?_) | refine gc_no (h1 := ?_))))
  refine go_is rfl (stp_len rfl hh0) ?_
  (repeat (first | refine gst (hk := ?_) | (refine go_is rfl (stp_peqN rfl rfl) ?_) | (show GO _ _ _ _ _ (⟨some _, none, _⟩ :: _) _; first | refine go_op (hk := ?_) | (refine go_nw (hk := ?_); intro u; try simp only [llc, lln, lna, lza]) | (refine go_np (hk := ?_); intro id)) | (show GO _ _ _ _ _ (⟨none, none, _⟩ :: _) _; refine go_st (hk := ?_)) | (show GO _ _ _ _ _ (⟨_, some _, _⟩ :: _) _; first | refine go_in (hk := ?_) | refine go_out (hk := ?_) | refine go_void (hk := ?_)) | (show GK _ _ _ _ (blockK _ _ _); refine gk_past rfl ?_) | (show GC _ _ _ _ _ (.cond _ _ _) _; first | refine gc_yes (h1 := ?_) | refine gc_no (h1 := ?_))))
  refine gc_loop (γ := Nat × List BK) (fun g => [(0, a), (3, aheadV g.2), (7, .int .i64 (xs.length : Int)), (8, .int .i64 (g.1 : Int))]) (fun g => stkS xs ws g.2 ++ S) (fun g => g.1 ≤ xs.length ∧ stkOk g.2 g.1 ∧ g.2.map (·.s) = poS (rS xs ws) (rW ws) g.1) (fun g => xs.length - g.1) (0, []) ⟨Nat.zero_le _, rfl, rfl⟩ (hS := sub_refl _) (hb := ?_)
  rintro ⟨i, st⟩ ⟨hi, hok, hps⟩ I ν μ hk
  simp only at hi hok hps
  (repeat (first | refine gst (hk := ?_) | (refine go_is rfl (stp_peqN rfl rfl) ?_) | (show GO _ _ _ _ _ (⟨some _, none, _⟩ :: _) _; first | refine go_op (hk := ?_) | (refine go_nw (hk := ?_); intro u; try simp only [llc, lln, lna, lza]) | (refine go_np (hk := ?_); intro id)) | (show GO _ _ _ _ _ (⟨none, none, _⟩ :: _) _; refine go_st (hk := ?_)) | (show GO _ _ _ _ _ (⟨_, some _, _⟩ :: _) _; first | refine go_in (hk := ?_) | refine go_out (hk := ?_) | refine go_void (hk := ?_)) | (show GK _ _ _ _ (blockK _ _ _); refine gk_past rfl ?_) | (show GC _ _ _ _ _ (.cond _ _ _) _; first | refine gc_yes (h1 := ?_) | refine gc_no (h1 := ?_))))
  refine gc_cond rfl (fun h => ?_) (fun h => ?_)
  · have hL := hp (by omega)
    (repeat (first | refine gst (hk := ?_) | (refine go_is rfl (stp_peqN rfl rfl) ?_) | (show GO _ _ _ _ _ (⟨some _, none, _⟩ :: _) _; first | refine go_op (hk := ?_) | (refine go_nw (hk := ?_); intro u; try simp only [llc, lln, lna, lza]) | (refine go_np (hk := ?_); intro id)) | (show GO _ _ _ _ _ (⟨none, none, _⟩ :: _) _; refine go_st (hk := ?_)) | (show GO _ _ _ _ _ (⟨_, some _, _⟩ :: _) _; first | refine go_in (hk := ?_) | refine go_out (hk := ?_) | refine go_void (hk := ?_)) | (show GK _ _ _ _ (blockK _ _ _); refine gk_past rfl ?_) | (show GC _ _ _ _ _ (.cond _ _ _) _; first | refine gc_yes (h1 := ?_) | refine gc_no (h1 := ?_))))
    refine go_know (p := ∃ id off, winV a i (i + 1) = .slice id off (i + 1 - i) (some (i + 1 - i)) 2) (fun m H hH => ?_) (fun hw => ?_)
    · obtain ⟨id, off, cap, rfl⟩ := slice_of (hH.valsA (hhas _)) (by omega)
      exact ⟨_, _, rfl⟩
    refine go_call rfl code_impl_cut.callable (fun H hH => cut_ok (hH.valsA (hhas _)) (l := i) (k := i) (by omega) (by omega)) ?_
    refine go_read (w := winV a i (i + 1)) (es := 2) (m := i + 1 - i) (ds := pns (wnL xs ws i (i + 1))) (fun H hv => vals_win cels_pn hv (ptL_len _ _).symm (by omega)) (hmem _) (fun j hj => winV_bid hj) ?_
    refine go_callg (V := aheadV) (T := fun st' => stkS xs ws st' ++ S) rfl code_impl_putBehind.callable (fun H hH => putBehind_ok hL (by omega) hH hw hok) ?_
    rintro st' ⟨hok', hps'⟩
    (repeat (first | refine gst (hk := ?_) | (refine go_is rfl (stp_peqN rfl rfl) ?_) | (show GO _ _ _ _ _ (⟨some _, none, _⟩ :: _) _; first | refine go_op (hk := ?_) | (refine go_nw (hk := ?_); intro u; try simp only [llc, lln, lna, lza]) | (refine go_np (hk := ?_); intro id)) | (show GO _ _ _ _ _ (⟨none, none, _⟩ :: _) _; refine go_st (hk := ?_)) | (show GO _ _ _ _ _ (⟨_, some _, _⟩ :: _) _; first | refine go_in (hk := ?_) | refine go_out (hk := ?_) | refine go_void (hk := ?_)) | (show GK _ _ _ _ (blockK _ _ _); refine gk_past rfl ?_) | (show GC _ _ _ _ _ (.cond _ _ _) _; first | refine gc_yes (h1 := ?_) | refine gc_no (h1 := ?_))))
    exact gk_next (hk (i + 1, st') ⟨by dsimp only; omega, hok', by rw [hps', hps]; rfl⟩ (by dsimp only; omega)) (hs := sub_refl _)
  · obtain rfl : i = xs.length := by omega
    (repeat (first | refine gst (hk := ?_) | (refine go_is rfl (stp_peqN rfl rfl) ?_) | (show GO _ _ _ _ _ (⟨some _, none, _⟩ :: _) _; first | refine go_op (hk := ?_) | (refine go_nw (hk := ?_); intro u; try simp only [llc, lln, lna, lza]) | (refine go_np (hk := ?_); intro id)) | (show GO _ _ _ _ _ (⟨none, none, _⟩ :: _) _; refine go_st (hk := ?_)) | (show GO _ _ _ _ _ (⟨_, some _, _⟩ :: _) _; first | refine go_in (hk := ?_) | refine go_out (hk := ?_) | refine go_void (hk := ?_)) | (show GK _ _ _ _ (blockK _ _ _); refine gk_past rfl ?_) | (show GC _ _ _ _ _ (.cond _ _ _) _; first | refine gc_yes (h1 := ?_) | refine gc_no (h1 := ?_))))
    refine gc_nilK 1 ?_
    refine gc_loop (γ := List BK × AV × List (AV × Nat × Nat)) (fun g => [(3, aheadV g.1), (5, g.2.1)]) (fun g => rwO g.2.1 g.2.2 :: (stkS xs ws g.1 ++ (rwS xs ws g.2.2 ++ S))) (fun g => (∃ e, stkOk g.1 e) ∧ (∀ q ∈ g.2.2, OneC q.1) ∧ g.2.2.map (·.2) ++ g.1.map (fun b => (b.s, b.e)) = st.map (fun b => (b.s, b.e)) ∧ g.2.2.length + g.1.length ≤ 8) (fun g => g.1.length) (st, .nilSlice, []) ⟨⟨_, hok⟩, by simp, rfl, ?_⟩ (hS := sub_refl _) (hb := ?_)
    · have := stk_len hok
      dsimp only [List.length_nil]; omega
    rintro ⟨s1, u, qs⟩ ⟨⟨e, hok1⟩, hone, hqs, hle⟩ I2 ν2 μ2 hk2
    simp only at hok1 hone hqs hle
    match s1, hok1 with
    | [], _ =>
      refine gc_keep [(3, .nilPtr), (5, u)] (rwO u qs :: (rwS xs ws qs ++ S)) (by (repeat (refine Cov.cons (by exact rfl) ?_)); exact Cov.nil) (sub_refl _) ?_
      (repeat (first | refine gst (hk := ?_) | (refine go_is rfl (stp_peqN rfl rfl) ?_) | (show GO _ _ _ _ _ (⟨some _, none, _⟩ :: _) _; first | refine go_op (hk := ?_) | (refine go_nw (hk := ?_); intro u; try simp only [llc, lln, lna, lza]) | (refine go_np (hk := ?_); intro id)) | (show GO _ _ _ _ _ (⟨none, none, _⟩ :: _) _; refine go_st (hk := ?_)) | (show GO _ _ _ _ _ (⟨_, some _, _⟩ :: _) _; first | refine go_in (hk := ?_) | refine go_out (hk := ?_) | refine go_void (hk := ?_)) | (show GK _ _ _ _ (blockK _ _ _); refine gk_past rfl ?_) | (show GC _ _ _ _ _ (.cond _ _ _) _; first | refine gc_yes (h1 := ?_) | refine gc_no (h1 := ?_))))
      refine go_callw rfl code_slices_Reverse_rows_impl_load_impl_load.callable (fun H hH => reverseV_ok hH .head (by simp) (fun w hw => by
        obtain ⟨q, hq, rfl⟩ := List.mem_map.1 hw
        exact hone q hq) (by omega)) ?_
      (repeat (first | refine gst (hk := ?_) | (refine go_is rfl (stp_peqN rfl rfl) ?_) | (show GO _ _ _ _ _ (⟨some _, none, _⟩ :: _) _; first | refine go_op (hk := ?_) | (refine go_nw (hk := ?_); intro u; try simp only [llc, lln, lna, lza]) | (refine go_np (hk := ?_); intro id)) | (show GO _ _ _ _ _ (⟨none, none, _⟩ :: _) _; refine go_st (hk := ?_)) | (show GO _ _ _ _ _ (⟨_, some _, _⟩ :: _) _; first | refine go_in (hk := ?_) | refine go_out (hk := ?_) | refine go_void (hk := ?_)) | (show GK _ _ _ _ (blockK _ _ _); refine gk_past rfl ?_) | (show GC _ _ _ _ _ (.cond _ _ _) _; first | refine gc_yes (h1 := ?_) | refine gc_no (h1 := ?_))))
      have e1 : rwO u qs.reverse = ⟨.rw, u, 1, qs.length, (qs.map (·.1)).reverse⟩ := by simp [rwO, List.map_reverse]
      refine gk_ret rfl fun H' hH => ⟨(u, qs.reverse), rfl, hH.sub ?_, ?_⟩
      · show Sub _ (rwO u qs.reverse :: (rwS xs ws qs.reverse ++ S))
        rw [e1]
        exact .cons .head (sub_perm (List.Perm.append_right _ ((List.reverse_perm _).map _)))
      · rw [List.map_reverse, ← hps, ← stk_bk hok, ← hqs]
        simp
    | ⟨bi, bk, bv, bs, be⟩ :: r, hok1 =>
      refine gc_keep [(3, .ptr bi 0), (5, u)] (rwO u qs :: ⟨.cell, .ptr bi 0, 2, 1, [bv, aheadV r]⟩ :: ⟨bk, bv, 2, be - bs, pns (wnL xs ws bs be)⟩ :: (stkS xs ws r ++ (rwS xs ws qs ++ S))) (by (repeat (refine Cov.cons (by exact rfl) ?_)); exact Cov.nil) (sub_refl _) ?_
      simp only [stkOk] at hok1
      obtain ⟨rfl, h2, h3, h4⟩ := hok1
      have k3 := h3.kd
      simp only at k3
      simp only [List.length_cons] at hle
      (repeat (first | refine gst (hk := ?_) | (refine go_is rfl (stp_peqN rfl rfl) ?_) | (show GO _ _ _ _ _ (⟨some _, none, _⟩ :: _) _; first | refine go_op (hk := ?_) | (refine go_nw (hk := ?_); intro u; try simp only [llc, lln, lna, lza]) | (refine go_np (hk := ?_); intro id)) | (show GO _ _ _ _ _ (⟨none, none, _⟩ :: _) _; refine go_st (hk := ?_)) | (show GO _ _ _ _ _ (⟨_, some _, _⟩ :: _) _; first | refine go_in (hk := ?_) | refine go_out (hk := ?_) | refine go_void (hk := ?_)) | (show GK _ _ _ _ (blockK _ _ _); refine gk_past rfl ?_) | (show GC _ _ _ _ _ (.cond _ _ _) _; first | refine gc_yes (h1 := ?_) | refine gc_no (h1 := ?_))))
      refine go_know (p := OneC bv) (fun m H hH => one_slice (hH.valsA (.tail (.tail (has_k k3))))) (fun ho => ?_)
      refine go_new rfl (stp_bslv rfl ho.1 ho.2) ?_
      intro w
      refine go_new rfl (stp_app (v := u) (es := 1) (n := qs.length) (m' := 1) (cs := qs.map (·.1)) (news := [bv]) rfl rfl (.tail .head) .rw (by simp [ho.2]) (by omega) (by omega) (by omega)) ?_
      intro u'
      refine go_frz k3 (.tail (.tail (.tail .head))) ?_
      (repeat (first | refine gst (hk := ?_) | (refine go_is rfl (stp_peqN rfl rfl) ?_) | (show GO _ _ _ _ _ (⟨some _, none, _⟩ :: _) _; first | refine go_op (hk := ?_) | (refine go_nw (hk := ?_); intro u; try simp only [llc, lln, lna, lza]) | (refine go_np (hk := ?_); intro id)) | (show GO _ _ _ _ _ (⟨none, none, _⟩ :: _) _; refine go_st (hk := ?_)) | (show GO _ _ _ _ _ (⟨_, some _, _⟩ :: _) _; first | refine go_in (hk := ?_) | refine go_out (hk := ?_) | refine go_void (hk := ?_)) | (show GK _ _ _ _ (blockK _ _ _); refine gk_past rfl ?_) | (show GC _ _ _ _ _ (.cond _ _ _) _; first | refine gc_yes (h1 := ?_) | refine gc_no (h1 := ?_))))
      have e1 : rwO u' (qs ++ [(bv, bs, be)]) = ⟨.rw, u', 1, qs.length + 1, qs.map (·.1) ++ [bv]⟩ := by simp [rwO]
      have e2 : rwS xs ws (qs ++ [(bv, bs, be)]) = rwS xs ws qs ++ [rwCh xs ws (bv, bs, be)] := by simp [rwS]
      refine gk_next (hk2 (r, u', qs ++ [(bv, bs, be)]) ⟨⟨_, h4⟩, fun q hq => ?_, ?_, ?_⟩ (by simp)) (hs := sub_pre (R := [⟨.rw, w, 1, 1, [bv]⟩, ⟨.cell, .ptr bi 0, 2, 1, [bv, aheadV r]⟩]) (sub_perm ?_))
      · rcases List.mem_append.1 hq with hq | hq
        · exact hone q hq
        · rw [List.mem_singleton.1 hq]; exact ho
      · rw [← hqs]; simp
      · simp only [List.length_append, List.length_cons, List.length_nil]; omega
      · simp only [e1, e2]
        exact perm_rw _ _ _ _ _ _ _

theorem bkL_len : ∀ (r : List Nat) (e : Nat), (bkL r e).length = r.length
  | [], _ => rfl
  | a :: r, e => by rw [bkL, List.length_append, bkL_len r a]; rfl

theorem bkL_at : ∀ {r : List Nat} {e j s u : Nat}, j < r.length → nth (stI r) j = (s : Int) → (if j + 1 < r.length then nth (stI r) (j + 1) else (e : Int)) = (u : Int) → (bkL r e)[j]? = some (s, u)
  | [], _, j, _, _, h, _, _ => absurd h (Nat.not_lt_zero _)
  | a :: r, e, j, s, u, h, h1, h2 => by
    have hl := stI_len r
    have hb := bkL_len r a
    rw [stI] at h1 h2
    rw [bkL]
    simp only [List.length_cons] at h h2
    rcases Nat.lt_or_ge j r.length with h3 | h3
    · rw [List.getElem?_append_left (by omega)]
      rw [nth_app_lt (by omega)] at h1
      refine bkL_at h3 h1 ?_
      rw [if_pos (by omega)] at h2
      rcases Nat.lt_or_ge (j + 1) r.length with h4 | h4
      · rw [if_pos h4, ← h2, nth_app_lt (by omega)]
      · rw [if_neg (by omega), ← h2, show j + 1 = (stI r).length by omega, nth_app_eq]
    · obtain rfl : j = r.length := by omega
      rw [List.getElem?_append_right (by omega), hb, Nat.sub_self]
      rw [← hl, nth_app_eq] at h1
      rw [if_neg (by omega)] at h2
      simp only [List.getElem?_cons_zero, Option.some.injEq]
      exact Prod.ext (by dsimp only; omega) (by dsimp only; omega)

structure BlkAt (xs ws : List Int) (qs : List (AV × Nat × Nat)) (j : Nat) (v : AV) (s u : Nat) : Prop where
  mem : (v, s, u) ∈ qs
  val : nthV (qs.map (·.1)) j = v
  st : nth (blL xs ws) j = (s : Int)
  nx : (if j + 1 < (blL xs ws).length then nth (blL xs ws) (j + 1) else (xs.length : Int)) = (u : Int)
  lt : s < u
  le : u ≤ xs.length
  fit : ∀ t, s ≤ t → t < u → fiR xs ws t = mnR xs ws s u
  z : j = 0 → s = 0
  l : j + 1 = (blL xs ws).length → u = xs.length

theorem blk_len {xs ws : List Int} {qs : List (AV × Nat × Nat)} (hq : qs.map (·.2) = bkL (poS (rS xs ws) (rW ws) xs.length) xs.length) : qs.length = (blL xs ws).length := by
  have := congrArg List.length hq
  rw [List.length_map, bkL_len] at this
  rw [this]; exact (stI_len _).symm

theorem blk_get {xs ws : List Int} (hL : Loads xs ws) {qs : List (AV × Nat × Nat)} (hq : qs.map (·.2) = bkL (poS (rS xs ws) (rW ws) xs.length) xs.length) {j : Nat} (hj : j < qs.length) : ∃ v s u, BlkAt xs ws qs j v s u := by
  have hsl : (blL xs ws).length = (poS (rS xs ws) (rW ws) xs.length).length := stI_len _
  have hlen := blk_len hq
  obtain ⟨s, u, g1, g2, g3, g4, g5, g6, g7, _⟩ := blk_at hL.blk.1 j (by omega)
  have hb := bkL_at (e := xs.length) (by omega) g1 g2
  rw [← hq, List.getElem?_map] at hb
  rw [List.getElem?_eq_getElem hj] at hb
  simp only [Option.map_some, Option.some.injEq] at hb
  refine ⟨qs[j].1, s, u, ?_, ?_, g1, by rw [hsl]; exact g2, g3, g4, fun t h1 h2 => ?_, g6, fun h => g7 (by omega)⟩
  · have : qs[j] = (qs[j].1, s, u) := Prod.ext rfl hb
    rw [← this]
    exact List.getElem_mem hj
  · rw [show nthV (qs.map (·.1)) j = (qs.map (·.1))[j]'(by rw [List.length_map]; exact hj) from nthA_of _, List.getElem_map]
  · rw [← mnR_mnA]; exact g5 t h1 h2

theorem rw_has {xs ws : List Int} {qs : List (AV × Nat × Nat)} {v : AV} {s u : Nat} (h : (v, s, u) ∈ qs) (T S : Sig) : Has (T ++ (rwS xs ws qs ++ S)) v 2 (u - s) (pns (wnL xs ws s u)) :=
  has_memk (c := rwCh xs ws (v, s, u)) (List.mem_append_right _ (List.mem_append_left _ (List.mem_map.2 ⟨_, h, rfl⟩))) (.inr rfl)

def sqT (xs ws : List Int) : Nat → Int
  | 0 => 0
  | i + 1 => sqT xs ws i + nth xs i * nth xs i * nth ws i

theorem Loads.sq1 {xs ws : List Int} (h : Loads xs ws) {i : Nat} (hi : i < xs.length) : (0 ≤ nth xs i * nth xs i ∧ nth xs i * nth xs i ≤ 900) ∧ 0 ≤ nth xs i * nth xs i * nth ws i ∧ nth xs i * nth xs i * nth ws i ≤ 4500 := by
  have hx := h.x i
  have hw := h.w hi
  generalize nth xs i = x at *
  generalize nth ws i = w at *
  have m1 := absmul (k := x) (l := x) (A := 30) (B := 30) (by omega) (by omega) (by omega) (by omega)
  have m0 : 0 ≤ x * x := by
    rcases Int.le_total 0 x with g | g
    · exact Int.mul_nonneg g g
    · have := Int.mul_nonneg (show 0 ≤ -x by omega) (show 0 ≤ -x by omega)
      rwa [Int.neg_mul_neg] at this
  refine ⟨⟨m0, by omega⟩, ?_⟩
  generalize x * x = y at *
  have m2 : y * w ≤ 900 * 5 := Int.mul_le_mul (by omega) (by omega) (by omega) (by omega)
  exact ⟨Int.mul_nonneg m0 (by omega), by omega⟩

theorem Loads.sq_bd {xs ws : List Int} (h : Loads xs ws) {s : Nat} : ∀ {t : Nat}, s ≤ t → t ≤ xs.length → 0 ≤ sqT xs ws t - sqT xs ws s ∧ sqT xs ws t - sqT xs ws s ≤ 4500 * ((t - s : Nat) : Int)
  | 0, h1, _ => by obtain rfl : s = 0 := by omega
                   simp
  | t + 1, h1, h2 => by
    rcases Nat.lt_or_ge t s with g | g
    · obtain rfl : s = t + 1 := by omega
      simp
    · have ih := h.sq_bd g (by omega)
      have := (h.sq1 (i := t) (by omega)).2
      rw [sqT]; omega

theorem mi_step {xs ws : List Int} {s : Nat} {m : Rat} : ∀ {t : Nat}, s ≤ t → (∀ j, s ≤ j → j < t → fiR xs ws j = m) → miR xs ws t = miR xs ws s + (((sqT xs ws t - sqT xs ws s : Int) : Rat) - m * ((dotT xs ws t - dotT xs ws s : Int) : Rat) - m * ((dotT xs ws t - dotT xs ws s : Int) : Rat) + m * m * ((sumI ws t - sumI ws s : Int) : Rat))
  | 0, h1, _ => by
    obtain rfl : s = 0 := by omega
    rw [Int.sub_self, Int.sub_self, Int.sub_self, show ((0 : Int) : Rat) = 0 from rfl]; grind
  | t + 1, h1, h2 => by
    rcases Nat.lt_or_ge t s with g | g
    · obtain rfl : s = t + 1 := by omega
      rw [Int.sub_self, Int.sub_self, Int.sub_self, show ((0 : Int) : Rat) = 0 from rfl]; grind
    · have ih := mi_step g fun j j1 j2 => h2 j j1 (by omega)
      have e : miR xs ws (t + 1) = miR xs ws t + sqM xs ws (fiR xs ws) t := rfl
      rw [e, ih]
      unfold sqM
      rw [h2 t g (by omega), sqT, show dotT xs ws (t + 1) = dotT xs ws t + nth xs t * nth ws t from rfl, show sumI ws (t + 1) = sumI ws t + nth ws t from rfl]
      simp only [Rat.intCast_add, Rat.intCast_sub, Rat.intCast_mul]
      grind

theorem mi_blk {xs ws : List Int} (hL : Loads xs ws) {s u : Nat} (h1 : s < u) (h2 : u ≤ xs.length) (hf : ∀ t, s ≤ t → t < u → fiR xs ws t = mnR xs ws s u) : miR xs ws s + ((sqT xs ws u - sqT xs ws s : Int) : Rat) - mnR xs ws s u * ((dotT xs ws u - dotT xs ws s : Int) : Rat) = miR xs ws u := by
  have hp := hL.pos h1 h2
  rw [mi_step (by omega) hf]
  have e : mnR xs ws s u * ((sumI ws u - sumI ws s : Int) : Rat) = ((dotT xs ws u - dotT xs ws s : Int) : Rat) := by
    unfold mnR
    exact Rat.div_mul_cancel (rat_ne (by omega))
  generalize mnR xs ws s u = m at *
  generalize ((sumI ws u - sumI ws s : Int) : Rat) = W at *
  generalize ((dotT xs ws u - dotT xs ws s : Int) : Rat) = D at *
  grind

structure MsFit (xs ws : List Int) (s u : Nat) : Prop where
  a : FitA (miR xs ws s) ((sqT xs ws u - sqT xs ws s : Int) : Rat)
  m : FitM (mnR xs ws s u) ((dotT xs ws u - dotT xs ws s : Int) : Rat)
  b : FitA (miR xs ws s + ((sqT xs ws u - sqT xs ws s : Int) : Rat)) (mnR xs ws s u * ((dotT xs ws u - dotT xs ws s : Int) : Rat))

theorem Loads.ms_fit {xs ws : List Int} (hL : Loads xs ws) {s u : Nat} (h1 : s < u) (h2 : u ≤ xs.length) : MsFit xs ws s u := by
  obtain ⟨Q, f1, hQ⟩ := hL.mi_fd (t := s) (by omega)
  have hp := hL.pos h1 h2
  have hs := hL.sums (i := s) (e := u) (by omega) h2
  have hq := hL.sq_bd (s := s) (t := u) (by omega) h2
  have hn := hL.2.2.2.2
  have f2 := hL.fd h1 h2
  have f3 : FD ((sqT xs ws u - sqT xs ws s : Int) : Rat) 1 36000 := FD.int (by omega)
  have f4 : FD ((dotT xs ws u - dotT xs ws s : Int) : Rat) 1 1200 := FD.int (by omega)
  have q0 := f1.pos.1
  have key : FitA (miR xs ws s) ((sqT xs ws u - sqT xs ws s : Int) : Rat) ∧ FitM (mnR xs ws s u) ((dotT xs ws u - dotT xs ws s : Int) : Rat) ∧ FitA (miR xs ws s + ((sqT xs ws u - sqT xs ws s : Int) : Rat)) (mnR xs ws s u * ((dotT xs ws u - dotT xs ws s : Int) : Rat)) := by
    generalize sqT xs ws u - sqT xs ws s = q at *
    generalize dotT xs ws u - dotT xs ws s = d at *
    generalize sumI ws u - sumI ws s = V at *
    have f5 := (f1.add (f3.lift (m := Q) q0 |>.to (D' := Q) (by omega))).mono (B := 180000 * Q) (by omega)
    have f6 := (f2.mul f4)
    have m : V * Q ≤ 40 * 92000000 := Int.mul_le_mul (by omega) hQ (by omega) (by omega)
    have m' : Q * V = V * Q := Int.mul_comm _ _
    refine ⟨fitA_of f1 f3 (by omega) (by omega) (by omega), fitM_of f2 f4 (by omega) (by omega), fitA_of f5 f6 ?_ ?_ ?_⟩
    · rw [Int.mul_one, Int.mul_assoc, m']; omega
    · rw [show 30 * V * 1200 * Q = 36000 * (V * Q) by grind]; omega
    · rw [Int.mul_one, m']; omega
  exact ⟨key.1, key.2.1, key.2.2⟩

theorem riseMiss_ok {H : Heap} {w : AV} {xs ws : List Int} (hw : Vals H w 2 xs.length (pns (ptL xs ws))) (hL : (xs = [] ∧ ws = []) ∨ Loads xs ws) :
    ACalls Try.prog fn_impl_riseMiss [w] H fun r H' => r = frV (miE xs ws) ∧ H' = H := by
  refine ACalls.val ?_ rfl
  have hp : 0 < xs.length → Loads xs ws := fun h0 => by
    rcases hL with ⟨rfl, _⟩ | h
    · simp at h0
    · exact h
  refine code_impl_riseMiss.go [roP w xs.length (ptL xs ws)] ⟨⟨rfl, hw⟩, trivial⟩ (by simp) ?_
  unfold mc_impl_riseMiss
  (repeat (first | refine gst (hk := ?_) | (show GO _ _ _ _ _ (⟨some _, none, _⟩ :: _) _; first | refine go_op (hk := ?_) | (refine go_nw (hk := ?_); intro u; try simp only [llc, lln, lna, lza]) | (refine go_np (hk := ?_); intro id)) | (show GR _ _ _ _ _ _ (⟨some _, none, _⟩ :: _) _; refine gr_op (hk := ?_)) | (show GO _ _ _ _ _ (⟨none, none, _⟩ :: _) _; refine go_st (hk := ?_)) | (show GR _ _ _ _ _ _ (⟨none, none, _⟩ :: _) _; refine gr_st (hk := ?_)) | (show GO _ _ _ _ _ (⟨_, some _, _⟩ :: _) _; first | refine go_in (hk := ?_) | refine go_out (hk := ?_) | refine go_void (hk := ?_)) | (show GK _ _ _ _ (blockK _ _ _); refine gk_past rfl ?_) | (show GC _ _ _ _ _ (.cond _ _ _) _; first | refine gc_yes (h1 := ?_) | refine gc_no (h1 := ?_))))
  revert id; intro i2
  refine go_callp rfl code_impl_whole.callable (fun H hH => implWhole_ok' (n := 0)) ?_
  (repeat (first | refine gst (hk := ?_) | (show GO _ _ _ _ _ (⟨some _, none, _⟩ :: _) _; first | refine go_op (hk := ?_) | (refine go_nw (hk := ?_); intro u; try simp only [llc, lln, lna, lza]) | (refine go_np (hk := ?_); intro id)) | (show GR _ _ _ _ _ _ (⟨some _, none, _⟩ :: _) _; refine gr_op (hk := ?_)) | (show GO _ _ _ _ _ (⟨none, none, _⟩ :: _) _; refine go_st (hk := ?_)) | (show GR _ _ _ _ _ _ (⟨none, none, _⟩ :: _) _; refine gr_st (hk := ?_)) | (show GO _ _ _ _ _ (⟨_, some _, _⟩ :: _) _; first | refine go_in (hk := ?_) | refine go_out (hk := ?_) | refine go_void (hk := ?_)) | (show GK _ _ _ _ (blockK _ _ _); refine gk_past rfl ?_) | (show GC _ _ _ _ _ (.cond _ _ _) _; first | refine gc_yes (h1 := ?_) | refine gc_no (h1 := ?_))))
  revert id; intro i3
  refine go_callg (V := fun g : AV × List (AV × Nat × Nat) => g.1) (T := fun g => (rwO g.1 g.2 :: rwS xs ws g.2) ++ [celF i3 ((0 : Int) : Rat), cel0 i2, roP w xs.length (ptL xs ws)]) rfl code_impl_risingBlocks.callable (fun H hH => risingBlocks_ok hH (by simp) hL) ?_
  rintro ⟨v, qs⟩ hq
  dsimp only at hq
  have hql := blk_len hq
  (repeat (first | refine gst (hk := ?_) | (show GO _ _ _ _ _ (⟨some _, none, _⟩ :: _) _; first | refine go_op (hk := ?_) | (refine go_nw (hk := ?_); intro u; try simp only [llc, lln, lna, lza]) | (refine go_np (hk := ?_); intro id)) | (show GR _ _ _ _ _ _ (⟨some _, none, _⟩ :: _) _; refine gr_op (hk := ?_)) | (show GO _ _ _ _ _ (⟨none, none, _⟩ :: _) _; refine go_st (hk := ?_)) | (show GR _ _ _ _ _ _ (⟨none, none, _⟩ :: _) _; refine gr_st (hk := ?_)) | (show GO _ _ _ _ _ (⟨_, some _, _⟩ :: _) _; first | refine go_in (hk := ?_) | refine go_out (hk := ?_) | refine go_void (hk := ?_)) | (show GK _ _ _ _ (blockK _ _ _); refine gk_past rfl ?_) | (show GC _ _ _ _ _ (.cond _ _ _) _; first | refine gc_yes (h1 := ?_) | refine gc_no (h1 := ?_))))
  have e0 : miR xs ws 0 = ((0 : Int) : Rat) := rfl
  refine gc_loop (γ := Nat × Nat) (fun g => [(2, .ptr i2 0), (3, .ptr i3 0), (11, v), (12, .int .i64 (qs.length : Int)), (13, .int .i64 (g.1 : Int))]) (fun g => [celF i3 (miR xs ws g.2), rwO v qs, cel0 i2] ++ (rwS xs ws qs ++ [roP w xs.length (ptL xs ws)])) (fun g => g.1 ≤ (blL xs ws).length ∧ (if g.1 < (blL xs ws).length then nth (blL xs ws) g.1 else (xs.length : Int)) = (g.2 : Int)) (fun g => (blL xs ws).length - g.1) (0, 0) ⟨Nat.zero_le _, ?_⟩ (hS := ?_) (hb := ?_)
  · by_cases h0 : 0 < (blL xs ws).length
    · have hn0 : 0 < xs.length := by
        rcases hL with ⟨rfl, rfl⟩ | h
        · simp [blL, stI, poS] at h0
        · exact h.2.2.2.1
      obtain ⟨y, s, e, h1⟩ := blk_get (hp hn0) hq (j := 0) (by omega)
      have := h1.z rfl
      subst this
      rw [if_pos (by dsimp only; omega), h1.st]
    · rcases hL with ⟨rfl, rfl⟩ | h
      · simp [blL, stI, poS]
      · have := h.bl_len; omega
  · rw [e0]
    exact .cons (.tail (sel_app (rwS xs ws qs) .head)) (.cons .head (.cons (sel_app (rwS xs ws qs) .head) (sub_refl _)))
  rintro ⟨j, s⟩ ⟨hj, hs⟩ I ν μ hk
  simp only at hj hs
  (repeat (first | refine gst (hk := ?_) | (show GO _ _ _ _ _ (⟨some _, none, _⟩ :: _) _; first | refine go_op (hk := ?_) | (refine go_nw (hk := ?_); intro u; try simp only [llc, lln, lna, lza]) | (refine go_np (hk := ?_); intro id)) | (show GR _ _ _ _ _ _ (⟨some _, none, _⟩ :: _) _; refine gr_op (hk := ?_)) | (show GO _ _ _ _ _ (⟨none, none, _⟩ :: _) _; refine go_st (hk := ?_)) | (show GR _ _ _ _ _ _ (⟨none, none, _⟩ :: _) _; refine gr_st (hk := ?_)) | (show GO _ _ _ _ _ (⟨_, some _, _⟩ :: _) _; first | refine go_in (hk := ?_) | refine go_out (hk := ?_) | refine go_void (hk := ?_)) | (show GK _ _ _ _ (blockK _ _ _); refine gk_past rfl ?_) | (show GC _ _ _ _ _ (.cond _ _ _) _; first | refine gc_yes (h1 := ?_) | refine gc_no (h1 := ?_))))
  refine gc_cond rfl (fun h1 => ?_) (fun h1 => ?_)
  · have hn0 : 0 < xs.length := by
      rcases hL with ⟨rfl, rfl⟩ | h
      · have : (blL [] []).length = 0 := rfl
        omega
      · exact h.2.2.2.1
    have hL' := hp hn0
    have hn := hL'.2.2.2.2
    have hbl := hL'.bl_len
    obtain ⟨y, s', e, hB⟩ := blk_get hL' hq (j := j) (by omega)
    have g1 := hB.st
    have g2 := hB.lt
    have g3 := hB.le
    rw [if_pos (by omega)] at hs
    obtain rfl : s' = s := by omega
    (repeat (first | refine gst (hk := ?_) | (show GO _ _ _ _ _ (⟨some _, none, _⟩ :: _) _; first | refine go_op (hk := ?_) | (refine go_nw (hk := ?_); intro u; try simp only [llc, lln, lna, lza]) | (refine go_np (hk := ?_); intro id)) | (show GR _ _ _ _ _ _ (⟨some _, none, _⟩ :: _) _; refine gr_op (hk := ?_)) | (show GO _ _ _ _ _ (⟨none, none, _⟩ :: _) _; refine go_st (hk := ?_)) | (show GR _ _ _ _ _ _ (⟨none, none, _⟩ :: _) _; refine gr_st (hk := ?_)) | (show GO _ _ _ _ _ (⟨_, some _, _⟩ :: _) _; first | refine go_in (hk := ?_) | refine go_out (hk := ?_) | refine go_void (hk := ?_)) | (show GK _ _ _ _ (blockK _ _ _); refine gk_past rfl ?_) | (show GC _ _ _ _ _ (.cond _ _ _) _; first | refine gc_yes (h1 := ?_) | refine gc_no (h1 := ?_))))
    refine go_is rfl (stp_ldV (i := j) rfl (by exact Has.auto) (by simp) (by simp; omega)) ?_
    rw [hB.val]
    (repeat (first | refine gst (hk := ?_) | (show GO _ _ _ _ _ (⟨some _, none, _⟩ :: _) _; first | refine go_op (hk := ?_) | (refine go_nw (hk := ?_); intro u; try simp only [llc, lln, lna, lza]) | (refine go_np (hk := ?_); intro id)) | (show GR _ _ _ _ _ _ (⟨some _, none, _⟩ :: _) _; refine gr_op (hk := ?_)) | (show GO _ _ _ _ _ (⟨none, none, _⟩ :: _) _; refine go_st (hk := ?_)) | (show GR _ _ _ _ _ _ (⟨none, none, _⟩ :: _) _; refine gr_st (hk := ?_)) | (show GO _ _ _ _ _ (⟨_, some _, _⟩ :: _) _; first | refine go_in (hk := ?_) | refine go_out (hk := ?_) | refine go_void (hk := ?_)) | (show GK _ _ _ _ (blockK _ _ _); refine gk_past rfl ?_) | (show GC _ _ _ _ _ (.cond _ _ _) _; first | refine gc_yes (h1 := ?_) | refine gc_no (h1 := ?_))))
    refine go_is rfl (stp_len rfl (rw_has hB.mem [_, _, _] _)) ?_
    (repeat (first | refine gst (hk := ?_) | (show GO _ _ _ _ _ (⟨some _, none, _⟩ :: _) _; first | refine go_op (hk := ?_) | (refine go_nw (hk := ?_); intro u; try simp only [llc, lln, lna, lza]) | (refine go_np (hk := ?_); intro id)) | (show GR _ _ _ _ _ _ (⟨some _, none, _⟩ :: _) _; refine gr_op (hk := ?_)) | (show GO _ _ _ _ _ (⟨none, none, _⟩ :: _) _; refine go_st (hk := ?_)) | (show GR _ _ _ _ _ _ (⟨none, none, _⟩ :: _) _; refine gr_st (hk := ?_)) | (show GO _ _ _ _ _ (⟨_, some _, _⟩ :: _) _; first | refine go_in (hk := ?_) | refine go_out (hk := ?_) | refine go_void (hk := ?_)) | (show GK _ _ _ _ (blockK _ _ _); refine gk_past rfl ?_) | (show GC _ _ _ _ _ (.cond _ _ _) _; first | refine gc_yes (h1 := ?_) | refine gc_no (h1 := ?_))))
    refine gc_up (e - s') (fun d => [(2, .ptr i2 0), (3, .ptr i3 0), (5, y), (6, .int .i64 (sqT xs ws (s' + d) - sqT xs ws s')), (11, v), (12, .int .i64 (qs.length : Int)), (13, .int .i64 (j : Int)), (17, y), (18, .int .i64 ((e - s' : Nat) : Int)), (19, .int .i64 (d : Int))]) (fun _ => [celF i3 (miR xs ws s'), rwO v qs, cel0 i2] ++ (rwS xs ws qs ++ [roP w xs.length (ptL xs ws)])) (hE := ?_) (hS := sub_refl _) (hb := ?_)
    · rw [Nat.add_zero, Int.sub_self]
      (repeat (refine Cov.cons (by exact rfl) ?_)); exact Cov.nil
    intro d hd I2 ν2 μ2 hk2
    (repeat (first | refine gst (hk := ?_) | (show GO _ _ _ _ _ (⟨some _, none, _⟩ :: _) _; first | refine go_op (hk := ?_) | (refine go_nw (hk := ?_); intro u; try simp only [llc, lln, lna, lza]) | (refine go_np (hk := ?_); intro id)) | (show GR _ _ _ _ _ _ (⟨some _, none, _⟩ :: _) _; refine gr_op (hk := ?_)) | (show GO _ _ _ _ _ (⟨none, none, _⟩ :: _) _; refine go_st (hk := ?_)) | (show GR _ _ _ _ _ _ (⟨none, none, _⟩ :: _) _; refine gr_st (hk := ?_)) | (show GO _ _ _ _ _ (⟨_, some _, _⟩ :: _) _; first | refine go_in (hk := ?_) | refine go_out (hk := ?_) | refine go_void (hk := ?_)) | (show GK _ _ _ _ (blockK _ _ _); refine gk_past rfl ?_) | (show GC _ _ _ _ _ (.cond _ _ _) _; first | refine gc_yes (h1 := ?_) | refine gc_no (h1 := ?_))))
    refine gc_cond rfl (fun h2 => ?_) (fun h2 => ?_)
    · have hk2 := hk2 (by omega)
      have q1 := hL'.sq1 (i := s' + d) (by omega)
      have q2 := hL'.sq_bd (s := s') (t := s' + d) (by omega) (by omega)
      rw [show sqT xs ws (s' + (d + 1)) = sqT xs ws (s' + d) + nth xs (s' + d) * nth xs (s' + d) * nth ws (s' + d) from rfl] at hk2
      (repeat (first | refine gst (hk := ?_) | (show GO _ _ _ _ _ (⟨some _, none, _⟩ :: _) _; first | refine go_op (hk := ?_) | (refine go_nw (hk := ?_); intro u; try simp only [llc, lln, lna, lza]) | (refine go_np (hk := ?_); intro id)) | (show GR _ _ _ _ _ _ (⟨some _, none, _⟩ :: _) _; refine gr_op (hk := ?_)) | (show GO _ _ _ _ _ (⟨none, none, _⟩ :: _) _; refine go_st (hk := ?_)) | (show GR _ _ _ _ _ _ (⟨none, none, _⟩ :: _) _; refine gr_st (hk := ?_)) | (show GO _ _ _ _ _ (⟨_, some _, _⟩ :: _) _; first | refine go_in (hk := ?_) | refine go_out (hk := ?_) | refine go_void (hk := ?_)) | (show GK _ _ _ _ (blockK _ _ _); refine gk_past rfl ?_) | (show GC _ _ _ _ _ (.cond _ _ _) _; first | refine gc_yes (h1 := ?_) | refine gc_no (h1 := ?_))))
      refine go_is rfl (stp_ixa (i := d) rfl rfl (rw_has hB.mem [_, _, _] _) (by omega)) ?_
      refine go_is rfl (stp_ldK cels_pn (0, 0) (i := d) rfl (rw_has hB.mem [_, _, _] _) (wn_len (xs := xs) (ws := ws) ⟨by omega, g3⟩).symm (by rw [wn_len (xs := xs) (ws := ws) ⟨by omega, g3⟩]; omega)) ?_
      rw [show nthA (0, 0) (wnL xs ws s' e) d = (nth xs (s' + d), nth ws (s' + d)) from wn_nth g3 (by omega)]
      simp only [pnC]
      generalize hP : nth xs (s' + d) * nth xs (s' + d) * nth ws (s' + d) = P at *
      (repeat (first | refine gst (hk := ?_) | (show GO _ _ _ _ _ (⟨some _, none, _⟩ :: _) _; first | refine go_op (hk := ?_) | (refine go_nw (hk := ?_); intro u; try simp only [llc, lln, lna, lza]) | (refine go_np (hk := ?_); intro id)) | (show GR _ _ _ _ _ _ (⟨some _, none, _⟩ :: _) _; refine gr_op (hk := ?_)) | (show GO _ _ _ _ _ (⟨none, none, _⟩ :: _) _; refine go_st (hk := ?_)) | (show GR _ _ _ _ _ _ (⟨none, none, _⟩ :: _) _; refine gr_st (hk := ?_)) | (show GO _ _ _ _ _ (⟨_, some _, _⟩ :: _) _; first | refine go_in (hk := ?_) | refine go_out (hk := ?_) | refine go_void (hk := ?_)) | (show GK _ _ _ _ (blockK _ _ _); refine gk_past rfl ?_) | (show GC _ _ _ _ _ (.cond _ _ _) _; first | refine gc_yes (h1 := ?_) | refine gc_no (h1 := ?_))))
      rw [hP]
      rw [show sqT xs ws (s' + d) + P - sqT xs ws s' = sqT xs ws (s' + d) - sqT xs ws s' + P by omega] at hk2
      exact gk_next hk2 (hs := sub_drop (sub_refl _))
    · obtain rfl : d = e - s' := by omega
      rw [show s' + (e - s') = e by omega]
      (repeat (first | refine gst (hk := ?_) | (show GO _ _ _ _ _ (⟨some _, none, _⟩ :: _) _; first | refine go_op (hk := ?_) | (refine go_nw (hk := ?_); intro u; try simp only [llc, lln, lna, lza]) | (refine go_np (hk := ?_); intro id)) | (show GR _ _ _ _ _ _ (⟨some _, none, _⟩ :: _) _; refine gr_op (hk := ?_)) | (show GO _ _ _ _ _ (⟨none, none, _⟩ :: _) _; refine go_st (hk := ?_)) | (show GR _ _ _ _ _ _ (⟨none, none, _⟩ :: _) _; refine gr_st (hk := ?_)) | (show GO _ _ _ _ _ (⟨_, some _, _⟩ :: _) _; first | refine go_in (hk := ?_) | refine go_out (hk := ?_) | refine go_void (hk := ?_)) | (show GK _ _ _ _ (blockK _ _ _); refine gk_past rfl ?_) | (show GC _ _ _ _ _ (.cond _ _ _) _; first | refine gc_yes (h1 := ?_) | refine gc_no (h1 := ?_))))
      have hf := hL'.ms_fit g2 g3
      refine gc_drcs (fun H => qtTab [(fn_impl_whole, dWhole), (fn_impl_Frac_plus, dPlusI), (fn_impl_meanOf, dOne [y] (frV (mnR xs ws s' e))), (fn_impl_totalOf, dOne [y] (.agg [.int .i64 (sumI ws e - sumI ws s'), .int .i64 (dotT xs ws e - dotT xs ws s')])), (fn_impl_Frac_times, dTimesI), (fn_impl_Frac_minus, dMinusI)]) (fun H hH => ?_) (fun H0 h0 => ?_)
      · exact qtTab_cons (dWhole_ok H) (qtTab_cons (dPlusI_ok H) (qtTab_cons (dOne_ok code_impl_meanOf.callable (meanOf_ok (hH.valsA (rw_has hB.mem [_, _, _] _)) hL' g2 g3)) (qtTab_cons (dOne_ok code_impl_totalOf.callable (totalOf_ok (hH.valsA (rw_has hB.mem [_, _, _] _)) hL' (by omega) g3)) (qtTab_cons (dTimesI_ok H) (qtTab_cons (dMinusI_ok H) qtTab_nil)))))
      (repeat (first | refine gst (hk := ?_) | (show GO _ _ _ _ _ (⟨some _, none, _⟩ :: _) _; first | refine go_op (hk := ?_) | (refine go_nw (hk := ?_); intro u; try simp only [llc, lln, lna, lza]) | (refine go_np (hk := ?_); intro id)) | (show GR _ _ _ _ _ _ (⟨some _, none, _⟩ :: _) _; refine gr_op (hk := ?_)) | (show GO _ _ _ _ _ (⟨none, none, _⟩ :: _) _; refine go_st (hk := ?_)) | (show GR _ _ _ _ _ _ (⟨none, none, _⟩ :: _) _; refine gr_st (hk := ?_)) | (show GO _ _ _ _ _ (⟨_, some _, _⟩ :: _) _; first | refine go_in (hk := ?_) | refine go_out (hk := ?_) | refine go_void (hk := ?_)) | (show GK _ _ _ _ (blockK _ _ _); refine gk_past rfl ?_) | (show GC _ _ _ _ _ (.cond _ _ _) _; first | refine gc_yes (h1 := ?_) | refine gc_no (h1 := ?_))))
      refine gr_call (v := frV ((sqT xs ws e - sqT xs ws s' : Int) : Rat)) rfl rfl ?_
      refine gr_call rfl (fam2_is (F := FitA) (p := miR xs ws s') (q := ((sqT xs ws e - sqT xs ws s' : Int) : Rat)) hf.a) ?_
      (repeat (first | refine gst (hk := ?_) | (show GO _ _ _ _ _ (⟨some _, none, _⟩ :: _) _; first | refine go_op (hk := ?_) | (refine go_nw (hk := ?_); intro u; try simp only [llc, lln, lna, lza]) | (refine go_np (hk := ?_); intro id)) | (show GR _ _ _ _ _ _ (⟨some _, none, _⟩ :: _) _; refine gr_op (hk := ?_)) | (show GO _ _ _ _ _ (⟨none, none, _⟩ :: _) _; refine go_st (hk := ?_)) | (show GR _ _ _ _ _ _ (⟨none, none, _⟩ :: _) _; refine gr_st (hk := ?_)) | (show GO _ _ _ _ _ (⟨_, some _, _⟩ :: _) _; first | refine go_in (hk := ?_) | refine go_out (hk := ?_) | refine go_void (hk := ?_)) | (show GK _ _ _ _ (blockK _ _ _); refine gk_past rfl ?_) | (show GC _ _ _ _ _ (.cond _ _ _) _; first | refine gc_yes (h1 := ?_) | refine gc_no (h1 := ?_))))
      refine gr_call rfl dOne_is ?_
      (repeat (first | refine gst (hk := ?_) | (show GO _ _ _ _ _ (⟨some _, none, _⟩ :: _) _; first | refine go_op (hk := ?_) | (refine go_nw (hk := ?_); intro u; try simp only [llc, lln, lna, lza]) | (refine go_np (hk := ?_); intro id)) | (show GR _ _ _ _ _ _ (⟨some _, none, _⟩ :: _) _; refine gr_op (hk := ?_)) | (show GO _ _ _ _ _ (⟨none, none, _⟩ :: _) _; refine go_st (hk := ?_)) | (show GR _ _ _ _ _ _ (⟨none, none, _⟩ :: _) _; refine gr_st (hk := ?_)) | (show GO _ _ _ _ _ (⟨_, some _, _⟩ :: _) _; first | refine go_in (hk := ?_) | refine go_out (hk := ?_) | refine go_void (hk := ?_)) | (show GK _ _ _ _ (blockK _ _ _); refine gk_past rfl ?_) | (show GC _ _ _ _ _ (.cond _ _ _) _; first | refine gc_yes (h1 := ?_) | refine gc_no (h1 := ?_))))
      refine gr_call rfl dOne_is ?_
      (repeat (first | refine gst (hk := ?_) | (show GO _ _ _ _ _ (⟨some _, none, _⟩ :: _) _; first | refine go_op (hk := ?_) | (refine go_nw (hk := ?_); intro u; try simp only [llc, lln, lna, lza]) | (refine go_np (hk := ?_); intro id)) | (show GR _ _ _ _ _ _ (⟨some _, none, _⟩ :: _) _; refine gr_op (hk := ?_)) | (show GO _ _ _ _ _ (⟨none, none, _⟩ :: _) _; refine go_st (hk := ?_)) | (show GR _ _ _ _ _ _ (⟨none, none, _⟩ :: _) _; refine gr_st (hk := ?_)) | (show GO _ _ _ _ _ (⟨_, some _, _⟩ :: _) _; first | refine go_in (hk := ?_) | refine go_out (hk := ?_) | refine go_void (hk := ?_)) | (show GK _ _ _ _ (blockK _ _ _); refine gk_past rfl ?_) | (show GC _ _ _ _ _ (.cond _ _ _) _; first | refine gc_yes (h1 := ?_) | refine gc_no (h1 := ?_))))
      refine gr_is (v := .int .i64 (dotT xs ws e - dotT xs ws s')) rfl (stp_fld rfl (by simp) (by exact rfl)) ?_
      refine gr_call rfl (dTimesI_is (p := mnR xs ws s' e) hf.m) ?_
      refine gr_call rfl (fam2_is (F := FitA) (p := miR xs ws s' + ((sqT xs ws e - sqT xs ws s' : Int) : Rat)) (q := mnR xs ws s' e * ((dotT xs ws e - dotT xs ws s' : Int) : Rat)) hf.b) ?_
      rw [mi_blk hL' g2 g3 hB.fit]
      (repeat (first | refine gst (hk := ?_) | (show GO _ _ _ _ _ (⟨some _, none, _⟩ :: _) _; first | refine go_op (hk := ?_) | (refine go_nw (hk := ?_); intro u; try simp only [llc, lln, lna, lza]) | (refine go_np (hk := ?_); intro id)) | (show GR _ _ _ _ _ _ (⟨some _, none, _⟩ :: _) _; refine gr_op (hk := ?_)) | (show GO _ _ _ _ _ (⟨none, none, _⟩ :: _) _; refine go_st (hk := ?_)) | (show GR _ _ _ _ _ _ (⟨none, none, _⟩ :: _) _; refine gr_st (hk := ?_)) | (show GO _ _ _ _ _ (⟨_, some _, _⟩ :: _) _; first | refine go_in (hk := ?_) | refine go_out (hk := ?_) | refine go_void (hk := ?_)) | (show GK _ _ _ _ (blockK _ _ _); refine gk_past rfl ?_) | (show GC _ _ _ _ _ (.cond _ _ _) _; first | refine gc_yes (h1 := ?_) | refine gc_no (h1 := ?_))))
      exact gk_next (hk (j + 1, e) ⟨by dsimp only; omega, hB.nx⟩ (by dsimp only; omega)) (hs := sub_refl _)
  · obtain rfl : j = (blL xs ws).length := by omega
    rw [if_neg (by omega)] at hs
    obtain rfl : s = xs.length := by omega
    (repeat (first | refine gst (hk := ?_) | (show GO _ _ _ _ _ (⟨some _, none, _⟩ :: _) _; first | refine go_op (hk := ?_) | (refine go_nw (hk := ?_); intro u; try simp only [llc, lln, lna, lza]) | (refine go_np (hk := ?_); intro id)) | (show GR _ _ _ _ _ _ (⟨some _, none, _⟩ :: _) _; refine gr_op (hk := ?_)) | (show GO _ _ _ _ _ (⟨none, none, _⟩ :: _) _; refine go_st (hk := ?_)) | (show GR _ _ _ _ _ _ (⟨none, none, _⟩ :: _) _; refine gr_st (hk := ?_)) | (show GO _ _ _ _ _ (⟨_, some _, _⟩ :: _) _; first | refine go_in (hk := ?_) | refine go_out (hk := ?_) | refine go_void (hk := ?_)) | (show GK _ _ _ _ (blockK _ _ _); refine gk_past rfl ?_) | (show GC _ _ _ _ _ (.cond _ _ _) _; first | refine gc_yes (h1 := ?_) | refine gc_no (h1 := ?_))))
    exact gk_retc rfl (by exact Sel.auto) rfl rfl fun H' hH => ⟨rfl, hH.leE⟩

theorem implRiseMiss_ok {H : Heap} {a b : AV} {xs ws : List Int} (ha : Ints H a xs) (hb : Ints H b ws) (hl : xs.length ≤ 1000000000) (hl' : ws.length ≤ 1000000000) :
    ACalls Try.prog fn_impl_RiseMiss [a, b] H fun r H' => r = rmX xs ws ∧ H' = H := by
  refine ACalls.val ?_ (by unfold rmX; split <;> rfl)
  refine code_impl_RiseMiss.go [.roI a xs.length xs, .roI b ws.length ws] ⟨⟨rfl, ha⟩, ⟨rfl, hb⟩, trivial⟩ (by simp) ?_
  unfold mc_impl_RiseMiss
  (repeat (first | refine gst (hk := ?_) | (show GO _ _ _ _ _ (⟨some _, none, .call _ _⟩ :: _) _; first | (refine go_callp rfl code_impl_ValidLoads.callable (fun H hH => implValidLoads_ok (hH.ints (by exact Has.auto)) (hH.ints (by exact Has.auto)) (by omega) (by omega)) ?_)) | (show GO _ _ _ _ _ (⟨some _, none, _⟩ :: _) _; first | refine go_op (hk := ?_) | (refine go_nw (hk := ?_); intro u; try simp only [llc, lln, lna, lza]) | (refine go_np (hk := ?_); intro id)) | (show GO _ _ _ _ _ (⟨none, none, _⟩ :: _) _; refine go_st (hk := ?_)) | (show GO _ _ _ _ _ (⟨_, some _, _⟩ :: _) _; first | refine go_in (hk := ?_) | refine go_out (hk := ?_) | refine go_void (hk := ?_)) | (show GK _ _ _ _ (blockK _ _ _); refine gk_past rfl ?_) | (show GC _ _ _ _ _ (.cond _ _ _) _; first | refine gc_yes (h1 := ?_) | refine gc_no (h1 := ?_))))
  refine gc_cond rfl (fun h => ?_) (fun h => ?_)
  · (repeat (first | refine gst (hk := ?_) | (show GO _ _ _ _ _ (⟨some _, none, .call _ _⟩ :: _) _; first | (refine go_callp rfl code_impl_ValidLoads.callable (fun H hH => implValidLoads_ok (hH.ints (by exact Has.auto)) (hH.ints (by exact Has.auto)) (by omega) (by omega)) ?_)) | (show GO _ _ _ _ _ (⟨some _, none, _⟩ :: _) _; first | refine go_op (hk := ?_) | (refine go_nw (hk := ?_); intro u; try simp only [llc, lln, lna, lza]) | (refine go_np (hk := ?_); intro id)) | (show GO _ _ _ _ _ (⟨none, none, _⟩ :: _) _; refine go_st (hk := ?_)) | (show GO _ _ _ _ _ (⟨_, some _, _⟩ :: _) _; first | refine go_in (hk := ?_) | refine go_out (hk := ?_) | refine go_void (hk := ?_)) | (show GK _ _ _ _ (blockK _ _ _); refine gk_past rfl ?_) | (show GC _ _ _ _ _ (.cond _ _ _) _; first | refine gc_yes (h1 := ?_) | refine gc_no (h1 := ?_))))
    exact gk_rets (rvs_c rfl (by exact Sel.auto) rfl rfl (rvs_t rfl rvs_nil)) fun H' hH => ⟨by unfold rmX; rw [if_neg h]; rfl, hH.leE⟩
  have hL := Decidable.not_not.1 h
  have hn := hL.2.2.2.2
  (repeat (first | refine gst (hk := ?_) | (show GO _ _ _ _ _ (⟨some _, none, .call _ _⟩ :: _) _; first | (refine go_callp rfl code_impl_ValidLoads.callable (fun H hH => implValidLoads_ok (hH.ints (by exact Has.auto)) (hH.ints (by exact Has.auto)) (by omega) (by omega)) ?_)) | (show GO _ _ _ _ _ (⟨some _, none, _⟩ :: _) _; first | refine go_op (hk := ?_) | (refine go_nw (hk := ?_); intro u; try simp only [llc, lln, lna, lza]) | (refine go_np (hk := ?_); intro id)) | (show GO _ _ _ _ _ (⟨none, none, _⟩ :: _) _; refine go_st (hk := ?_)) | (show GO _ _ _ _ _ (⟨_, some _, _⟩ :: _) _; first | refine go_in (hk := ?_) | refine go_out (hk := ?_) | refine go_void (hk := ?_)) | (show GK _ _ _ _ (blockK _ _ _); refine gk_past rfl ?_) | (show GC _ _ _ _ _ (.cond _ _ _) _; first | refine gc_yes (h1 := ?_) | refine gc_no (h1 := ?_))))
  refine go_calln rfl code_impl_loadsOf.callable (fun H hH => loadsOf_ok (hH.ints (by exact Has.auto)) (hH.ints (by exact Has.auto)) hL.2.2.1 (by omega)) ?_
  intro u
  refine go_callp rfl code_impl_riseMiss.callable (fun H hH => riseMiss_ok (xs := xs) (ws := ws) (hH.valsA (by exact Has.auto)) (.inr hL)) ?_
  (repeat (first | refine gst (hk := ?_) | (show GO _ _ _ _ _ (⟨some _, none, .call _ _⟩ :: _) _; first | (refine go_callp rfl code_impl_ValidLoads.callable (fun H hH => implValidLoads_ok (hH.ints (by exact Has.auto)) (hH.ints (by exact Has.auto)) (by omega) (by omega)) ?_)) | (show GO _ _ _ _ _ (⟨some _, none, _⟩ :: _) _; first | refine go_op (hk := ?_) | (refine go_nw (hk := ?_); intro u; try simp only [llc, lln, lna, lza]) | (refine go_np (hk := ?_); intro id)) | (show GO _ _ _ _ _ (⟨none, none, _⟩ :: _) _; refine go_st (hk := ?_)) | (show GO _ _ _ _ _ (⟨_, some _, _⟩ :: _) _; first | refine go_in (hk := ?_) | refine go_out (hk := ?_) | refine go_void (hk := ?_)) | (show GK _ _ _ _ (blockK _ _ _); refine gk_past rfl ?_) | (show GC _ _ _ _ _ (.cond _ _ _) _; first | refine gc_yes (h1 := ?_) | refine gc_no (h1 := ?_))))
  exact gk_rets (rvs_c rfl (by exact Sel.auto) rfl rfl (rvs_t rfl rvs_nil)) fun H' hH => ⟨by unfold rmX; rw [if_pos hL]; rfl, hH.leE⟩

theorem ptL_zip {xs ws : List Int} (h : xs.length = ws.length) : ptL xs ws = xs.zip ws := by
  apply List.ext_getElem
  · rw [ptL_len, List.length_zip]; omega
  · intro i h1 h2
    rw [ptL_len] at h1
    have h3 : i < (ptL xs ws).length := by rw [ptL_len]; exact h1
    rw [List.getElem_zip, ← nth_of h1, ← nth_of (by omega), ← ptL_nth h1]
    exact (nthA_of h3).symm

theorem ptL_take {xs ws : List Int} (h : xs.length = ws.length) (k : Nat) : (ptL xs ws).take k = ptL (xs.take k) (ws.take k) := by
  rw [ptL_zip h, ptL_zip (by simp [h]), List.zip_eq_zipWith, List.zip_eq_zipWith, List.take_zipWith]

theorem ptL_rest {xs ws : List Int} (h : xs.length = ws.length) (k : Nat) : ((ptL xs ws).drop k).reverse = ptL (xs.drop k).reverse (ws.drop k).reverse := by
  rw [ptL_zip h, ptL_zip (by simp [h]), List.zip_eq_zipWith, List.zip_eq_zipWith, List.drop_zipWith, List.reverse_zipWith (by simp [h])]

theorem fallMiss_ok {A : Heap} {X : List Nat} {S S0 : Sig} {H : Heap} {v : AV} {xs ws : List Int} {k : Nat} (hS : SOk A X S H.size H) (hs : Sel S (rwP v xs.length (ptL xs ws)) S0) (hL : Loads xs ws) (hk : k ≤ xs.length) :
    ACalls Try.prog fn_impl_fallMiss [subW v k xs.length] H fun r H' => r = frV (miE (xs.drop k).reverse (ws.drop k).reverse) ∧ SOk A X (rwP v xs.length (ptL xs ws) :: S0) H'.size H' := by
  have hn := hL.2.2.2.2
  have hpl := ptL_len xs ws
  have e1 : ((ptL xs ws).take k ++ ((ptL xs ws).drop k).reverse).length = xs.length := by
    rw [← hpl]; simp; omega
  have e2 : ((ptL xs ws).take k ++ ((ptL xs ws).drop k).reverse).drop k = ((ptL xs ws).drop k).reverse := by
    rw [List.drop_append, List.drop_eq_nil_of_le (by simp; omega), List.nil_append, List.length_take, hpl, Nat.min_eq_left hk, Nat.sub_self, List.drop_zero]
  have e3 : ((ptL xs ws).take k ++ ((ptL xs ws).drop k).reverse).take k = (ptL xs ws).take k := by
    rw [List.take_append_of_le_length (by simp; omega), List.take_take, Nat.min_self]
  have e4 : ((xs.drop k).reverse).length = xs.length - k := by simp
  refine hcd_goS code_impl_fallMiss (hS.sel hs) (by simp) ?_
  unfold mc_impl_fallMiss
  (repeat (first | refine gst (hk := ?_) | (show GO _ _ _ _ _ (⟨some _, none, _⟩ :: _) _; first | refine go_op (hk := ?_) | (refine go_nw (hk := ?_); intro u; try simp only [llc, lln, lna, lza]) | (refine go_np (hk := ?_); intro id)) | (show GO _ _ _ _ _ (⟨none, none, _⟩ :: _) _; refine go_st (hk := ?_)) | (show GO _ _ _ _ _ (⟨_, some _, _⟩ :: _) _; first | refine go_in (hk := ?_) | refine go_out (hk := ?_) | refine go_void (hk := ?_)) | (show GK _ _ _ _ (blockK _ _ _); refine gk_past rfl ?_) | (show GC _ _ _ _ _ (.cond _ _ _) _; first | refine gc_yes (h1 := ?_) | refine gc_no (h1 := ?_))))
  revert id; intro i2
  refine go_callw rfl code_slices_Reverse_impl_load_impl_load.callable (fun H hH => reverseL_ok (l := k) hH (by exact Sel.auto) hpl.symm hk (.inl rfl) (by omega)) ?_
  (repeat (first | refine gst (hk := ?_) | (show GO _ _ _ _ _ (⟨some _, none, _⟩ :: _) _; first | refine go_op (hk := ?_) | (refine go_nw (hk := ?_); intro u; try simp only [llc, lln, lna, lza]) | (refine go_np (hk := ?_); intro id)) | (show GO _ _ _ _ _ (⟨none, none, _⟩ :: _) _; refine go_st (hk := ?_)) | (show GO _ _ _ _ _ (⟨_, some _, _⟩ :: _) _; first | refine go_in (hk := ?_) | refine go_out (hk := ?_) | refine go_void (hk := ?_)) | (show GK _ _ _ _ (blockK _ _ _); refine gk_past rfl ?_) | (show GC _ _ _ _ _ (.cond _ _ _) _; first | refine gc_yes (h1 := ?_) | refine gc_no (h1 := ?_))))
  refine gc_dfr ?_
  (repeat (first | refine gst (hk := ?_) | (show GO _ _ _ _ _ (⟨some _, none, _⟩ :: _) _; first | refine go_op (hk := ?_) | (refine go_nw (hk := ?_); intro u; try simp only [llc, lln, lna, lza]) | (refine go_np (hk := ?_); intro id)) | (show GO _ _ _ _ _ (⟨none, none, _⟩ :: _) _; refine go_st (hk := ?_)) | (show GO _ _ _ _ _ (⟨_, some _, _⟩ :: _) _; first | refine go_in (hk := ?_) | refine go_out (hk := ?_) | refine go_void (hk := ?_)) | (show GK _ _ _ _ (blockK _ _ _); refine gk_past rfl ?_) | (show GC _ _ _ _ _ (.cond _ _ _) _; first | refine gc_yes (h1 := ?_) | refine gc_no (h1 := ?_))))
  refine gk_dfr rfl rfl rfl ?_
  (repeat (first | refine gst (hk := ?_) | (show GO _ _ _ _ _ (⟨some _, none, _⟩ :: _) _; first | refine go_op (hk := ?_) | (refine go_nw (hk := ?_); intro u; try simp only [llc, lln, lna, lza]) | (refine go_np (hk := ?_); intro id)) | (show GO _ _ _ _ _ (⟨none, none, _⟩ :: _) _; refine go_st (hk := ?_)) | (show GO _ _ _ _ _ (⟨_, some _, _⟩ :: _) _; first | refine go_in (hk := ?_) | refine go_out (hk := ?_) | refine go_void (hk := ?_)) | (show GK _ _ _ _ (blockK _ _ _); refine gk_past rfl ?_) | (show GC _ _ _ _ _ (.cond _ _ _) _; first | refine gc_yes (h1 := ?_) | refine gc_no (h1 := ?_))))
  refine go_callp rfl code_impl_riseMiss.callable (fun H hH => riseMiss_ok (xs := (xs.drop k).reverse) (ws := (ws.drop k).reverse) (by
    have h := vals_sub (l := k) cels_pn (hH.valsA (v := v) (es := 2) (n := xs.length) (cs := pns ((ptL xs ws).take k ++ ((ptL xs ws).drop k).reverse)) (by exact Has.auto)) e1.symm hk
    rw [e2, ptL_rest hL.2.2.1] at h
    rw [e4]; exact h) (hL.two hk).2) ?_
  (repeat (first | refine gst (hk := ?_) | (show GO _ _ _ _ _ (⟨some _, none, _⟩ :: _) _; first | refine go_op (hk := ?_) | (refine go_nw (hk := ?_); intro u; try simp only [llc, lln, lna, lza]) | (refine go_np (hk := ?_); intro id)) | (show GO _ _ _ _ _ (⟨none, none, _⟩ :: _) _; refine go_st (hk := ?_)) | (show GO _ _ _ _ _ (⟨_, some _, _⟩ :: _) _; first | refine go_in (hk := ?_) | refine go_out (hk := ?_) | refine go_void (hk := ?_)) | (show GK _ _ _ _ (blockK _ _ _); refine gk_past rfl ?_) | (show GC _ _ _ _ _ (.cond _ _ _) _; first | refine gc_yes (h1 := ?_) | refine gc_no (h1 := ?_))))
  refine gk_leave (.inr rfl) rfl ?_
  refine gl_call code_slices_Reverse_impl_load_impl_load.callable (fun H hH => ⟨_, reverseL_df (l := k) hH (by exact Sel.auto) e1.symm hk (.inl rfl) (by omega), fun r H' h => h.2⟩) (gl_nil ?_)
  rw [e3, e2, List.reverse_reverse, List.take_append_drop]
  exact gk_retc rfl (by exact Sel.auto) rfl rfl fun H' hH => ⟨rfl, hH.sub (.cons .head (sub_drop (sub_refl _)))⟩
/- peaks -/

def pkC (t : Nat × Rat) : List AV := [.int .i64 (t.1 : Int), .int .i64 t.2.num, .int .i64 (t.2.den : Int)]

theorem cels_pk : Cels pkC 3 := ⟨fun _ => rfl, fun _ => rfl⟩

abbrev pks (L : List (Nat × Rat)) : List AV := cellsK pkC L

abbrev pkV (t : Nat × Rat) : AV := .agg (pkC t)

abbrev nthQ (L : List (Nat × Rat)) (i : Nat) : Nat × Rat := nthA (0, 0) L i

theorem peakCompare_ok {H : Heap} {s t : Nat × Rat} (hf : FitA s.2 t.2) :
    ACalls Try.prog fn_impl_peak_compare [pkV s, pkV t] H fun r H' => r = .int .i64 (cmR s.2 t.2) ∧ H' = H := by
  refine ACalls.val ?_ rfl
  unfold pkV pkC
  refine code_impl_peak_compare.go [] trivial (by simp) ?_
  unfold mc_impl_peak_compare
  (repeat (first | refine gst (hk := ?_) | (show GO _ _ _ _ _ (⟨some _, none, _⟩ :: _) _; first | refine go_op (hk := ?_) | (refine go_nw (hk := ?_); intro u; try simp only [llc, lln, lna, lza]) | (refine go_np (hk := ?_); intro id)) | (show GO _ _ _ _ _ (⟨none, none, _⟩ :: _) _; refine go_st (hk := ?_)) | (show GO _ _ _ _ _ (⟨_, some _, _⟩ :: _) _; first | refine go_in (hk := ?_) | refine go_out (hk := ?_) | refine go_void (hk := ?_)) | (show GK _ _ _ _ (blockK _ _ _); refine gk_past rfl ?_) | (show GC _ _ _ _ _ (.cond _ _ _) _; first | refine gc_yes (h1 := ?_) | refine gc_no (h1 := ?_))))
  refine go_callp rfl code_impl_Frac_compare.callable (fun H hH => implCompare_ok (p := s.2) (q := t.2) hf) ?_
  (repeat (first | refine gst (hk := ?_) | (show GO _ _ _ _ _ (⟨some _, none, _⟩ :: _) _; first | refine go_op (hk := ?_) | (refine go_nw (hk := ?_); intro u; try simp only [llc, lln, lna, lza]) | (refine go_np (hk := ?_); intro id)) | (show GO _ _ _ _ _ (⟨none, none, _⟩ :: _) _; refine go_st (hk := ?_)) | (show GO _ _ _ _ _ (⟨_, some _, _⟩ :: _) _; first | refine go_in (hk := ?_) | refine go_out (hk := ?_) | refine go_void (hk := ?_)) | (show GK _ _ _ _ (blockK _ _ _); refine gk_past rfl ?_) | (show GC _ _ _ _ _ (.cond _ _ _) _; first | refine gc_yes (h1 := ?_) | refine gc_no (h1 := ?_))))
  exact gk_ret rfl fun H' hH => ⟨rfl, hH.leE⟩

def lfP (g : Nat → Nat × Rat) : Nat → Nat × Rat
  | 0 => g 0
  | k + 1 => if (g (k + 1)).2 < (lfP g k).2 then g (k + 1) else lfP g k

theorem lfP_is (g : Nat → Nat × Rat) : ∀ k, ∃ j, j ≤ k ∧ lfP g k = g j
  | 0 => ⟨0, Nat.le_refl _, rfl⟩
  | k + 1 => by
    obtain ⟨j, h1, h2⟩ := lfP_is g k
    rw [lfP]; split
    · exact ⟨k + 1, Nat.le_refl _, rfl⟩
    · exact ⟨j, by omega, h2⟩

abbrev celP (i : Nat) (t : Nat × Rat) : Ch := ⟨.cell, .ptr i 0, 3, 1, pkC t⟩

end Go.Rx.Try
