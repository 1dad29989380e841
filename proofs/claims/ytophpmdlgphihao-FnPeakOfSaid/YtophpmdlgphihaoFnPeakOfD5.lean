import Derived.Test.YtophpmdlgphihaoFnPeakOfD4
namespace Go.Rx.Try
open Go.Proofs
set_option maxRecDepth 100000
set_option maxHeartbeats 8000000
set_option linter.unusedSimpArgs false
set_option linter.unusedVariables false

theorem specRiseTo_ok {H : Heap} {a b : AV} {xs ws : List Int} {k : Nat} (ha : Ints H a xs) (hb : Ints H b ws) (hL : Loads xs ws) (hk : k ≤ xs.length) :
    ACalls Try.prog fn_spec_riseTo [a, b, .int .i64 (k : Int)] H fun r H' => r = frV (ptR xs ws k) ∧ H' = H := by
  refine ACalls.val ?_ rfl
  have hl := hL.2.2.1
  have hn := hL.2.2.2.2
  obtain ⟨t1, t2, t3⟩ := hL.pt_fits hk
  refine code_spec_riseTo.go [.roI a xs.length xs, .roI b ws.length ws] ⟨⟨rfl, ha⟩, ⟨rfl, hb⟩, trivial⟩ (by simp) ?_
  unfold mc_spec_riseTo
  have ld : (xs.drop k).length = xs.length - k := List.length_drop ..
  have lw : (ws.drop k).length = ws.length - k := List.length_drop ..
  have lt : (xs.take k).length = k := by rw [List.length_take]; omega
  have lr : (xs.drop k).reverse.length = xs.length - k := by rw [List.length_reverse, ld]
  (repeat (first | refine gst (hk := ?_) | (show GO _ _ _ _ _ (⟨some _, none, .call _ _⟩ :: _) _; first | (refine go_calln rfl code_spec_turned.callable (fun H hH => specTurned_ok (hH.ints (by exact Has.auto)) (by omega)) ?_; intro u) | (refine go_calln rfl code_spec_pool.callable (fun H hH => specPool_ok (hH.ints (by exact Has.auto)) (hH.ints (by exact Has.auto)) (by assumption)) ?_; intro u) | (refine go_calln rfl code_spec_spreadOut.callable (fun H hH => specSpread_ok (hH.ints (by exact Has.auto)) (hH.ints (by exact Has.auto)) (hH.ints (by exact Has.auto)) (by assumption)) ?_; intro u) | (refine go_callp rfl code_spec_missOf.callable (fun H hH => specMissOf_ok (hH.ints (by exact Has.auto)) (hH.ints (by exact Has.auto)) (hH.valsA (by exact Has.auto)) (by assumption)) ?_)) | (show GO _ _ _ _ _ (⟨some _, none, _⟩ :: _) _; first | refine go_op (hk := ?_) | (refine go_nw (hk := ?_); intro u; try simp only [llc, lln, lna, lza]) | (refine go_np (hk := ?_); intro id)) | (show GO _ _ _ _ _ (⟨none, none, _⟩ :: _) _; refine go_st (hk := ?_)) | (show GO _ _ _ _ _ (⟨_, some _, _⟩ :: _) _; first | refine go_in (hk := ?_) | refine go_out (hk := ?_) | refine go_void (hk := ?_)) | (show GK _ _ _ _ (blockK _ _ _); refine gk_past rfl ?_) | (show GC _ _ _ _ _ (.cond _ _ _) _; first | refine gc_yes (h1 := ?_) | refine gc_no (h1 := ?_))))
  revert u; intro u8
  rename_i u7
  refine go_callp rfl code_spec_frac.callable (fun H hH => frac_ok (a := 0) (b := 1) (by omega) (by omega) (by omega)) ?_
  rw [rat_one]
  (repeat (first | refine gst (hk := ?_) | (show GO _ _ _ _ _ (⟨some _, none, .call _ _⟩ :: _) _; first | (refine go_calln rfl code_spec_turned.callable (fun H hH => specTurned_ok (hH.ints (by exact Has.auto)) (by omega)) ?_; intro u) | (refine go_calln rfl code_spec_pool.callable (fun H hH => specPool_ok (hH.ints (by exact Has.auto)) (hH.ints (by exact Has.auto)) (by assumption)) ?_; intro u) | (refine go_calln rfl code_spec_spreadOut.callable (fun H hH => specSpread_ok (hH.ints (by exact Has.auto)) (hH.ints (by exact Has.auto)) (hH.ints (by exact Has.auto)) (by assumption)) ?_; intro u) | (refine go_callp rfl code_spec_missOf.callable (fun H hH => specMissOf_ok (hH.ints (by exact Has.auto)) (hH.ints (by exact Has.auto)) (hH.valsA (by exact Has.auto)) (by assumption)) ?_)) | (show GO _ _ _ _ _ (⟨some _, none, _⟩ :: _) _; first | refine go_op (hk := ?_) | (refine go_nw (hk := ?_); intro u; try simp only [llc, lln, lna, lza]) | (refine go_np (hk := ?_); intro id)) | (show GO _ _ _ _ _ (⟨none, none, _⟩ :: _) _; refine go_st (hk := ?_)) | (show GO _ _ _ _ _ (⟨_, some _, _⟩ :: _) _; first | refine go_in (hk := ?_) | refine go_out (hk := ?_) | refine go_void (hk := ?_)) | (show GK _ _ _ _ (blockK _ _ _); refine gk_past rfl ?_) | (show GC _ _ _ _ _ (.cond _ _ _) _; first | refine gc_yes (h1 := ?_) | refine gc_no (h1 := ?_))))
  revert id; intro i9
  revert id; intro i6
  refine gc_cut (γ := Rat) (fun _ => [(0, a), (1, b), (2, .int .i64 (k : Int)), (6, .ptr i6 0), (8, u8), (9, .ptr i9 0)]) (fun q => [celF i9 q, cel0 i6, .rwI u8 (xs.drop k).reverse.length (xs.drop k).reverse, .roI a xs.length xs, .roI b ws.length ws]) (fun q => q + miE (xs.drop k).reverse (ws.drop k).reverse = ptR xs ws k ∧ (k < xs.length → FitA q (miE (xs.drop k).reverse (ws.drop k).reverse))) rfl ?_ ?_
  · refine gc_cond rfl (fun h => ?_) (fun h => ?_)
    · have hL1 : Loads (xs.take k) (ws.take k) := hL.take (by omega) hk
      (repeat (first | refine gst (hk := ?_) | (show GO _ _ _ _ _ (⟨some _, none, .call _ _⟩ :: _) _; first | (refine go_calln rfl code_spec_turned.callable (fun H hH => specTurned_ok (hH.ints (by exact Has.auto)) (by omega)) ?_; intro u) | (refine go_calln rfl code_spec_pool.callable (fun H hH => specPool_ok (hH.ints (by exact Has.auto)) (hH.ints (by exact Has.auto)) (by assumption)) ?_; intro u) | (refine go_calln rfl code_spec_spreadOut.callable (fun H hH => specSpread_ok (hH.ints (by exact Has.auto)) (hH.ints (by exact Has.auto)) (hH.ints (by exact Has.auto)) (by assumption)) ?_; intro u) | (refine go_callp rfl code_spec_missOf.callable (fun H hH => specMissOf_ok (hH.ints (by exact Has.auto)) (hH.ints (by exact Has.auto)) (hH.valsA (by exact Has.auto)) (by assumption)) ?_)) | (show GO _ _ _ _ _ (⟨some _, none, _⟩ :: _) _; first | refine go_op (hk := ?_) | (refine go_nw (hk := ?_); intro u; try simp only [llc, lln, lna, lza]) | (refine go_np (hk := ?_); intro id)) | (show GO _ _ _ _ _ (⟨none, none, _⟩ :: _) _; refine go_st (hk := ?_)) | (show GO _ _ _ _ _ (⟨_, some _, _⟩ :: _) _; first | refine go_in (hk := ?_) | refine go_out (hk := ?_) | refine go_void (hk := ?_)) | (show GK _ _ _ _ (blockK _ _ _); refine gk_past rfl ?_) | (show GC _ _ _ _ _ (.cond _ _ _) _; first | refine gc_yes (h1 := ?_) | refine gc_no (h1 := ?_))))
      refine gc_keep [(0, a), (1, b), (2, .int .i64 (k : Int)), (6, .ptr i6 0), (7, u7), (8, u8), (9, .ptr i9 0)] [celF i9 ((0 : Int) : Rat), .roI u7 k (xs.take k), .roI b ws.length ws, .rwI u8 (xs.drop k).reverse.length (xs.drop k).reverse, cel0 i6, .roI a xs.length xs] (by (repeat (refine Cov.cons (by exact rfl) ?_)); exact Cov.nil) (by exact Sub.auto) ?_
      refine gc_dra_cut (γ := Unit) (fun _ => [(0, a), (1, b), (2, .int .i64 (k : Int)), (6, .ptr i6 0), (8, u8), (9, .ptr i9 0)]) (fun _ => [celF i9 (((0 : Int) : Rat) + miE (xs.take k) (ws.take k)), cel0 i6, .rwI u8 (xs.drop k).reverse.length (xs.drop k).reverse, .roI a xs.length xs, .roI b ws.length ws]) ?_ (fun _ => ?_)
      · refine gc_dra ?_ (gc_dra ?_ (gc_dra ?_ (gc_dra1 ?_)))
        all_goals
          (repeat (first | refine gst (hk := ?_) | (show GO _ _ _ _ _ (⟨some _, none, .call _ _⟩ :: _) _; first | (refine go_calln rfl code_spec_turned.callable (fun H hH => specTurned_ok (hH.ints (by exact Has.auto)) (by omega)) ?_; intro u) | (refine go_calln rfl code_spec_pool.callable (fun H hH => specPool_ok (hH.ints (by exact Has.auto)) (hH.ints (by exact Has.auto)) (by assumption)) ?_; intro u) | (refine go_calln rfl code_spec_spreadOut.callable (fun H hH => specSpread_ok (hH.ints (by exact Has.auto)) (hH.ints (by exact Has.auto)) (hH.ints (by exact Has.auto)) (by assumption)) ?_; intro u) | (refine go_callp rfl code_spec_missOf.callable (fun H hH => specMissOf_ok (hH.ints (by exact Has.auto)) (hH.ints (by exact Has.auto)) (hH.valsA (by exact Has.auto)) (by assumption)) ?_)) | (show GO _ _ _ _ _ (⟨some _, none, _⟩ :: _) _; first | refine go_op (hk := ?_) | (refine go_nw (hk := ?_); intro u; try simp only [llc, lln, lna, lza]) | (refine go_np (hk := ?_); intro id)) | (show GO _ _ _ _ _ (⟨none, none, _⟩ :: _) _; refine go_st (hk := ?_)) | (show GO _ _ _ _ _ (⟨_, some _, _⟩ :: _) _; first | refine go_in (hk := ?_) | refine go_out (hk := ?_) | refine go_void (hk := ?_)) | (show GK _ _ _ _ (blockK _ _ _); refine gk_past rfl ?_) | (show GC _ _ _ _ _ (.cond _ _ _) _; first | refine gc_yes (h1 := ?_) | refine gc_no (h1 := ?_))))
          refine go_callp rfl code_spec_plus.callable (fun H hH => specPlus_ok (p := ((0 : Int) : Rat)) (q := miE (xs.take k) (ws.take k)) t1) ?_
          (repeat (first | refine gst (hk := ?_) | (show GO _ _ _ _ _ (⟨some _, none, .call _ _⟩ :: _) _; first | (refine go_calln rfl code_spec_turned.callable (fun H hH => specTurned_ok (hH.ints (by exact Has.auto)) (by omega)) ?_; intro u) | (refine go_calln rfl code_spec_pool.callable (fun H hH => specPool_ok (hH.ints (by exact Has.auto)) (hH.ints (by exact Has.auto)) (by assumption)) ?_; intro u) | (refine go_calln rfl code_spec_spreadOut.callable (fun H hH => specSpread_ok (hH.ints (by exact Has.auto)) (hH.ints (by exact Has.auto)) (hH.ints (by exact Has.auto)) (by assumption)) ?_; intro u) | (refine go_callp rfl code_spec_missOf.callable (fun H hH => specMissOf_ok (hH.ints (by exact Has.auto)) (hH.ints (by exact Has.auto)) (hH.valsA (by exact Has.auto)) (by assumption)) ?_)) | (show GO _ _ _ _ _ (⟨some _, none, _⟩ :: _) _; first | refine go_op (hk := ?_) | (refine go_nw (hk := ?_); intro u; try simp only [llc, lln, lna, lza]) | (refine go_np (hk := ?_); intro id)) | (show GO _ _ _ _ _ (⟨none, none, _⟩ :: _) _; refine go_st (hk := ?_)) | (show GO _ _ _ _ _ (⟨_, some _, _⟩ :: _) _; first | refine go_in (hk := ?_) | refine go_out (hk := ?_) | refine go_void (hk := ?_)) | (show GK _ _ _ _ (blockK _ _ _); refine gk_past rfl ?_) | (show GC _ _ _ _ _ (.cond _ _ _) _; first | refine gc_yes (h1 := ?_) | refine gc_no (h1 := ?_))))
          exact gk_cut () (by (repeat (refine Cov.cons (by exact rfl) ?_)); exact Cov.nil) (by exact Sub.auto)
      (repeat (first | refine gst (hk := ?_) | (show GO _ _ _ _ _ (⟨some _, none, .call _ _⟩ :: _) _; first | (refine go_calln rfl code_spec_turned.callable (fun H hH => specTurned_ok (hH.ints (by exact Has.auto)) (by omega)) ?_; intro u) | (refine go_calln rfl code_spec_pool.callable (fun H hH => specPool_ok (hH.ints (by exact Has.auto)) (hH.ints (by exact Has.auto)) (by assumption)) ?_; intro u) | (refine go_calln rfl code_spec_spreadOut.callable (fun H hH => specSpread_ok (hH.ints (by exact Has.auto)) (hH.ints (by exact Has.auto)) (hH.ints (by exact Has.auto)) (by assumption)) ?_; intro u) | (refine go_callp rfl code_spec_missOf.callable (fun H hH => specMissOf_ok (hH.ints (by exact Has.auto)) (hH.ints (by exact Has.auto)) (hH.valsA (by exact Has.auto)) (by assumption)) ?_)) | (show GO _ _ _ _ _ (⟨some _, none, _⟩ :: _) _; first | refine go_op (hk := ?_) | (refine go_nw (hk := ?_); intro u; try simp only [llc, lln, lna, lza]) | (refine go_np (hk := ?_); intro id)) | (show GO _ _ _ _ _ (⟨none, none, _⟩ :: _) _; refine go_st (hk := ?_)) | (show GO _ _ _ _ _ (⟨_, some _, _⟩ :: _) _; first | refine go_in (hk := ?_) | refine go_out (hk := ?_) | refine go_void (hk := ?_)) | (show GK _ _ _ _ (blockK _ _ _); refine gk_past rfl ?_) | (show GC _ _ _ _ _ (.cond _ _ _) _; first | refine gc_yes (h1 := ?_) | refine gc_no (h1 := ?_))))
      exact gk_cutq _ ⟨by unfold ptR; rw [intc0]; grind, fun _ => t3⟩ (by (repeat (refine Cov.cons (by exact rfl) ?_)); exact Cov.nil) (by exact Sub.auto)
    · obtain rfl : k = 0 := by omega
      (repeat (first | refine gst (hk := ?_) | (show GO _ _ _ _ _ (⟨some _, none, .call _ _⟩ :: _) _; first | (refine go_calln rfl code_spec_turned.callable (fun H hH => specTurned_ok (hH.ints (by exact Has.auto)) (by omega)) ?_; intro u) | (refine go_calln rfl code_spec_pool.callable (fun H hH => specPool_ok (hH.ints (by exact Has.auto)) (hH.ints (by exact Has.auto)) (by assumption)) ?_; intro u) | (refine go_calln rfl code_spec_spreadOut.callable (fun H hH => specSpread_ok (hH.ints (by exact Has.auto)) (hH.ints (by exact Has.auto)) (hH.ints (by exact Has.auto)) (by assumption)) ?_; intro u) | (refine go_callp rfl code_spec_missOf.callable (fun H hH => specMissOf_ok (hH.ints (by exact Has.auto)) (hH.ints (by exact Has.auto)) (hH.valsA (by exact Has.auto)) (by assumption)) ?_)) | (show GO _ _ _ _ _ (⟨some _, none, _⟩ :: _) _; first | refine go_op (hk := ?_) | (refine go_nw (hk := ?_); intro u; try simp only [llc, lln, lna, lza]) | (refine go_np (hk := ?_); intro id)) | (show GO _ _ _ _ _ (⟨none, none, _⟩ :: _) _; refine go_st (hk := ?_)) | (show GO _ _ _ _ _ (⟨_, some _, _⟩ :: _) _; first | refine go_in (hk := ?_) | refine go_out (hk := ?_) | refine go_void (hk := ?_)) | (show GK _ _ _ _ (blockK _ _ _); refine gk_past rfl ?_) | (show GC _ _ _ _ _ (.cond _ _ _) _; first | refine gc_yes (h1 := ?_) | refine gc_no (h1 := ?_))))
      exact gk_cutq ((0 : Int) : Rat) ⟨by unfold ptR; rw [show miE (xs.take 0) (ws.take 0) = 0 from rfl, intc0], fun _ => t2⟩ (by (repeat (refine Cov.cons (by exact rfl) ?_)); exact Cov.nil) (by exact Sub.auto)
  rintro q ⟨hq, hf⟩
  (repeat (first | refine gst (hk := ?_) | (show GO _ _ _ _ _ (⟨some _, none, .call _ _⟩ :: _) _; first | (refine go_calln rfl code_spec_turned.callable (fun H hH => specTurned_ok (hH.ints (by exact Has.auto)) (by omega)) ?_; intro u) | (refine go_calln rfl code_spec_pool.callable (fun H hH => specPool_ok (hH.ints (by exact Has.auto)) (hH.ints (by exact Has.auto)) (by assumption)) ?_; intro u) | (refine go_calln rfl code_spec_spreadOut.callable (fun H hH => specSpread_ok (hH.ints (by exact Has.auto)) (hH.ints (by exact Has.auto)) (hH.ints (by exact Has.auto)) (by assumption)) ?_; intro u) | (refine go_callp rfl code_spec_missOf.callable (fun H hH => specMissOf_ok (hH.ints (by exact Has.auto)) (hH.ints (by exact Has.auto)) (hH.valsA (by exact Has.auto)) (by assumption)) ?_)) | (show GO _ _ _ _ _ (⟨some _, none, _⟩ :: _) _; first | refine go_op (hk := ?_) | (refine go_nw (hk := ?_); intro u; try simp only [llc, lln, lna, lza]) | (refine go_np (hk := ?_); intro id)) | (show GO _ _ _ _ _ (⟨none, none, _⟩ :: _) _; refine go_st (hk := ?_)) | (show GO _ _ _ _ _ (⟨_, some _, _⟩ :: _) _; first | refine go_in (hk := ?_) | refine go_out (hk := ?_) | refine go_void (hk := ?_)) | (show GK _ _ _ _ (blockK _ _ _); refine gk_past rfl ?_) | (show GC _ _ _ _ _ (.cond _ _ _) _; first | refine gc_yes (h1 := ?_) | refine gc_no (h1 := ?_))))
  refine gc_cond rfl (fun h => ?_) (fun h => ?_)
  · have hL2 : Loads (xs.drop k).reverse (ws.drop k).reverse := hL.rest (by omega)
    have hf2 := hf (by omega)
    (repeat (first | refine gst (hk := ?_) | (show GO _ _ _ _ _ (⟨some _, none, .call _ _⟩ :: _) _; first | (refine go_calln rfl code_spec_turned.callable (fun H hH => specTurned_ok (hH.ints (by exact Has.auto)) (by omega)) ?_; intro u) | (refine go_calln rfl code_spec_pool.callable (fun H hH => specPool_ok (hH.ints (by exact Has.auto)) (hH.ints (by exact Has.auto)) (by assumption)) ?_; intro u) | (refine go_calln rfl code_spec_spreadOut.callable (fun H hH => specSpread_ok (hH.ints (by exact Has.auto)) (hH.ints (by exact Has.auto)) (hH.ints (by exact Has.auto)) (by assumption)) ?_; intro u) | (refine go_callp rfl code_spec_missOf.callable (fun H hH => specMissOf_ok (hH.ints (by exact Has.auto)) (hH.ints (by exact Has.auto)) (hH.valsA (by exact Has.auto)) (by assumption)) ?_)) | (show GO _ _ _ _ _ (⟨some _, none, _⟩ :: _) _; first | refine go_op (hk := ?_) | (refine go_nw (hk := ?_); intro u; try simp only [llc, lln, lna, lza]) | (refine go_np (hk := ?_); intro id)) | (show GO _ _ _ _ _ (⟨none, none, _⟩ :: _) _; refine go_st (hk := ?_)) | (show GO _ _ _ _ _ (⟨_, some _, _⟩ :: _) _; first | refine go_in (hk := ?_) | refine go_out (hk := ?_) | refine go_void (hk := ?_)) | (show GK _ _ _ _ (blockK _ _ _); refine gk_past rfl ?_) | (show GC _ _ _ _ _ (.cond _ _ _) _; first | refine gc_yes (h1 := ?_) | refine gc_no (h1 := ?_))))
    refine gc_dra_cut (γ := Unit) (fun _ => [(0, a), (1, b), (6, .ptr i6 0), (9, .ptr i9 0)]) (fun _ => [celF i9 (ptR xs ws k), cel0 i6]) ?_ (fun _ => ?_)
    · refine gc_dra ?_ (gc_dra ?_ (gc_dra ?_ (gc_dra1 ?_)))
      all_goals
        (repeat (first | refine gst (hk := ?_) | (show GO _ _ _ _ _ (⟨some _, none, .call _ _⟩ :: _) _; first | (refine go_calln rfl code_spec_turned.callable (fun H hH => specTurned_ok (hH.ints (by exact Has.auto)) (by omega)) ?_; intro u) | (refine go_calln rfl code_spec_pool.callable (fun H hH => specPool_ok (hH.ints (by exact Has.auto)) (hH.ints (by exact Has.auto)) (by assumption)) ?_; intro u) | (refine go_calln rfl code_spec_spreadOut.callable (fun H hH => specSpread_ok (hH.ints (by exact Has.auto)) (hH.ints (by exact Has.auto)) (hH.ints (by exact Has.auto)) (by assumption)) ?_; intro u) | (refine go_callp rfl code_spec_missOf.callable (fun H hH => specMissOf_ok (hH.ints (by exact Has.auto)) (hH.ints (by exact Has.auto)) (hH.valsA (by exact Has.auto)) (by assumption)) ?_)) | (show GO _ _ _ _ _ (⟨some _, none, _⟩ :: _) _; first | refine go_op (hk := ?_) | (refine go_nw (hk := ?_); intro u; try simp only [llc, lln, lna, lza]) | (refine go_np (hk := ?_); intro id)) | (show GO _ _ _ _ _ (⟨none, none, _⟩ :: _) _; refine go_st (hk := ?_)) | (show GO _ _ _ _ _ (⟨_, some _, _⟩ :: _) _; first | refine go_in (hk := ?_) | refine go_out (hk := ?_) | refine go_void (hk := ?_)) | (show GK _ _ _ _ (blockK _ _ _); refine gk_past rfl ?_) | (show GC _ _ _ _ _ (.cond _ _ _) _; first | refine gc_yes (h1 := ?_) | refine gc_no (h1 := ?_))))
        refine go_callp rfl code_spec_plus.callable (fun H hH => specPlus_ok (p := q) (q := miE (xs.drop k).reverse (ws.drop k).reverse) hf2) ?_
        rw [hq]
        (repeat (first | refine gst (hk := ?_) | (show GO _ _ _ _ _ (⟨some _, none, .call _ _⟩ :: _) _; first | (refine go_calln rfl code_spec_turned.callable (fun H hH => specTurned_ok (hH.ints (by exact Has.auto)) (by omega)) ?_; intro u) | (refine go_calln rfl code_spec_pool.callable (fun H hH => specPool_ok (hH.ints (by exact Has.auto)) (hH.ints (by exact Has.auto)) (by assumption)) ?_; intro u) | (refine go_calln rfl code_spec_spreadOut.callable (fun H hH => specSpread_ok (hH.ints (by exact Has.auto)) (hH.ints (by exact Has.auto)) (hH.ints (by exact Has.auto)) (by assumption)) ?_; intro u) | (refine go_callp rfl code_spec_missOf.callable (fun H hH => specMissOf_ok (hH.ints (by exact Has.auto)) (hH.ints (by exact Has.auto)) (hH.valsA (by exact Has.auto)) (by assumption)) ?_)) | (show GO _ _ _ _ _ (⟨some _, none, _⟩ :: _) _; first | refine go_op (hk := ?_) | (refine go_nw (hk := ?_); intro u; try simp only [llc, lln, lna, lza]) | (refine go_np (hk := ?_); intro id)) | (show GO _ _ _ _ _ (⟨none, none, _⟩ :: _) _; refine go_st (hk := ?_)) | (show GO _ _ _ _ _ (⟨_, some _, _⟩ :: _) _; first | refine go_in (hk := ?_) | refine go_out (hk := ?_) | refine go_void (hk := ?_)) | (show GK _ _ _ _ (blockK _ _ _); refine gk_past rfl ?_) | (show GC _ _ _ _ _ (.cond _ _ _) _; first | refine gc_yes (h1 := ?_) | refine gc_no (h1 := ?_))))
        exact gk_cut () (by (repeat (refine Cov.cons (by exact rfl) ?_)); exact Cov.nil) (by exact Sub.auto)
    (repeat (first | refine gst (hk := ?_) | (show GO _ _ _ _ _ (⟨some _, none, .call _ _⟩ :: _) _; first | (refine go_calln rfl code_spec_turned.callable (fun H hH => specTurned_ok (hH.ints (by exact Has.auto)) (by omega)) ?_; intro u) | (refine go_calln rfl code_spec_pool.callable (fun H hH => specPool_ok (hH.ints (by exact Has.auto)) (hH.ints (by exact Has.auto)) (by assumption)) ?_; intro u) | (refine go_calln rfl code_spec_spreadOut.callable (fun H hH => specSpread_ok (hH.ints (by exact Has.auto)) (hH.ints (by exact Has.auto)) (hH.ints (by exact Has.auto)) (by assumption)) ?_; intro u) | (refine go_callp rfl code_spec_missOf.callable (fun H hH => specMissOf_ok (hH.ints (by exact Has.auto)) (hH.ints (by exact Has.auto)) (hH.valsA (by exact Has.auto)) (by assumption)) ?_)) | (show GO _ _ _ _ _ (⟨some _, none, _⟩ :: _) _; first | refine go_op (hk := ?_) | (refine go_nw (hk := ?_); intro u; try simp only [llc, lln, lna, lza]) | (refine go_np (hk := ?_); intro id)) | (show GO _ _ _ _ _ (⟨none, none, _⟩ :: _) _; refine go_st (hk := ?_)) | (show GO _ _ _ _ _ (⟨_, some _, _⟩ :: _) _; first | refine go_in (hk := ?_) | refine go_out (hk := ?_) | refine go_void (hk := ?_)) | (show GK _ _ _ _ (blockK _ _ _); refine gk_past rfl ?_) | (show GC _ _ _ _ _ (.cond _ _ _) _; first | refine gc_yes (h1 := ?_) | refine gc_no (h1 := ?_))))
    exact gk_rets (rvs_c rfl (by exact Sel.auto) rfl rfl rvs_nil) fun H' hH => ⟨rfl, hH.leE⟩
  · have hz : miE (xs.drop k).reverse (ws.drop k).reverse = 0 := by
      rw [List.drop_eq_nil_of_le (by omega : xs.length ≤ k)]; rfl
    have hq2 : q = ptR xs ws k := by rw [← hq, hz]; grind
    subst hq2
    (repeat (first | refine gst (hk := ?_) | (show GO _ _ _ _ _ (⟨some _, none, .call _ _⟩ :: _) _; first | (refine go_calln rfl code_spec_turned.callable (fun H hH => specTurned_ok (hH.ints (by exact Has.auto)) (by omega)) ?_; intro u) | (refine go_calln rfl code_spec_pool.callable (fun H hH => specPool_ok (hH.ints (by exact Has.auto)) (hH.ints (by exact Has.auto)) (by assumption)) ?_; intro u) | (refine go_calln rfl code_spec_spreadOut.callable (fun H hH => specSpread_ok (hH.ints (by exact Has.auto)) (hH.ints (by exact Has.auto)) (hH.ints (by exact Has.auto)) (by assumption)) ?_; intro u) | (refine go_callp rfl code_spec_missOf.callable (fun H hH => specMissOf_ok (hH.ints (by exact Has.auto)) (hH.ints (by exact Has.auto)) (hH.valsA (by exact Has.auto)) (by assumption)) ?_)) | (show GO _ _ _ _ _ (⟨some _, none, _⟩ :: _) _; first | refine go_op (hk := ?_) | (refine go_nw (hk := ?_); intro u; try simp only [llc, lln, lna, lza]) | (refine go_np (hk := ?_); intro id)) | (show GO _ _ _ _ _ (⟨none, none, _⟩ :: _) _; refine go_st (hk := ?_)) | (show GO _ _ _ _ _ (⟨_, some _, _⟩ :: _) _; first | refine go_in (hk := ?_) | refine go_out (hk := ?_) | refine go_void (hk := ?_)) | (show GK _ _ _ _ (blockK _ _ _); refine gk_past rfl ?_) | (show GC _ _ _ _ _ (.cond _ _ _) _; first | refine gc_yes (h1 := ?_) | refine gc_no (h1 := ?_))))
    exact gk_rets (rvs_c rfl (by exact Sel.auto) rfl rfl rvs_nil) fun H' hH => ⟨rfl, hH.leE⟩

noncomputable def pkN (xs ws : List Int) : Nat → Nat
  | 0 => 0
  | k + 1 => if ptR xs ws (k + 1) < ptR xs ws (pkN xs ws k) then k + 1 else pkN xs ws k

theorem pkN_is (xs ws : List Int) : ∀ k, pkN xs ws k ≤ k ∧ ∀ j, j ≤ k → ptR xs ws (pkN xs ws k) ≤ ptR xs ws j
  | 0 => ⟨Nat.le_refl _, fun j hj => by obtain rfl : j = 0 := by omega
                                        exact Rat.le_refl⟩
  | k + 1 => by
    obtain ⟨h1, h2⟩ := pkN_is xs ws k
    rw [show pkN xs ws (k + 1) = if ptR xs ws (k + 1) < ptR xs ws (pkN xs ws k) then k + 1 else pkN xs ws k from rfl]
    by_cases hc : ptR xs ws (k + 1) < ptR xs ws (pkN xs ws k)
    · rw [if_pos hc]
      refine ⟨Nat.le_refl _, fun j hj => ?_⟩
      rcases Nat.lt_or_ge k j with g | g
      · rw [show j = k + 1 by omega]; exact Rat.le_refl
      · exact Rat.le_trans (Rat.le_of_lt hc) (h2 j g)
    · rw [if_neg hc]
      refine ⟨by omega, fun j hj => ?_⟩
      rcases Nat.lt_or_ge k j with g | g
      · rw [show j = k + 1 by omega]; exact Rat.not_lt.1 hc
      · exact h2 j g

noncomputable def pkX (xs ws : List Int) : AV := if Loads xs ws then .tuple [.int .i64 (pkN xs ws xs.length : Int), frV (ptR xs ws (pkN xs ws xs.length)), .bool true] else .tuple [.int .i64 0, fr0, .bool false]

theorem specPeakOf_ok {H : Heap} {a b : AV} {xs ws : List Int} (ha : Ints H a xs) (hb : Ints H b ws) (hl : xs.length ≤ 1000000000) (hl' : ws.length ≤ 1000000000) :
    ACalls Try.prog fn_spec_PeakOf [a, b] H fun r H' => r = pkX xs ws ∧ H' = H := by
  refine ACalls.val ?_ (by unfold pkX; split <;> rfl)
  refine code_spec_PeakOf.go [.roI a xs.length xs, .roI b ws.length ws] ⟨⟨rfl, ha⟩, ⟨rfl, hb⟩, trivial⟩ (by simp) ?_
  unfold mc_spec_PeakOf
  (repeat (first | refine gst (hk := ?_) | (with_reducible first | (refine gc_drw (h := ?_); intro _) | (refine gc_drw2 (h := ?_); intro _)) | (show GO _ _ _ _ _ (⟨some _, none, .call _ _⟩ :: _) _; first | (refine go_callp rfl code_spec_validLoads.callable (fun H hH => specValidLoads_ok (hH.ints (by exact Has.auto)) (hH.ints (by exact Has.auto)) (by omega) (by omega)) ?_) | (refine go_callp rfl code_spec_riseTo.callable (fun H hH => specRiseTo_ok (hH.ints (by exact Has.auto)) (hH.ints (by exact Has.auto)) (by assumption) (by omega)) ?_)) | (show GO _ _ _ _ _ (⟨some _, none, _⟩ :: _) _; first | refine go_op (hk := ?_) | (refine go_nw (hk := ?_); intro u; try simp only [llc, lln, lna, lza]) | (refine go_np (hk := ?_); intro id)) | (show GD _ _ _ _ _ _ _ (⟨some _, none, _⟩ :: _) _; first | refine gd_op (hk := ?_) | (refine gd_nw (hk := ?_); intro u; try simp only [llc, lln, lna, lza])) | (show GD2 _ _ _ _ _ _ _ _ _ _ _ _ _ _; first | refine gd2_nil rfl ?_ | refine gd2_op (hk := ?_) | (refine gd2_nw (hk := ?_); intro u; try simp only [llc, lln, lna, lza]) | refine gd2_l (hk := ?_) | refine gd2_lp (hk := ?_) | (refine gd2_newp (hk := ?_); intro id) | refine gd2_st (hk := ?_) | (refine gd2_bsl rfl rfl ?_; intro u; try simp only [llc, lln, lna, lza]) | (refine gd2_a (hk := ?_); intro u; try simp only [llc, lln, lna, lza])) | (show GO _ _ _ _ _ (⟨none, none, _⟩ :: _) _; refine go_st (hk := ?_)) | (show GD _ _ _ _ _ _ _ (⟨none, none, _⟩ :: _) _; refine gd_st (hk := ?_)) | (show GO _ _ _ _ _ (⟨_, some _, _⟩ :: _) _; first | refine go_in (hk := ?_) | refine go_out (hk := ?_) | refine go_void (hk := ?_)) | (show GK _ _ _ _ (blockK _ _ _); refine gk_past rfl ?_) | (show GC _ _ _ _ _ (.cond _ _ _) _; first | refine gc_yes (h1 := ?_) | refine gc_no (h1 := ?_))))
  refine gc_cond rfl (fun h => ?_) (fun h => ?_)
  · (repeat (first | refine gst (hk := ?_) | (with_reducible first | (refine gc_drw (h := ?_); intro _) | (refine gc_drw2 (h := ?_); intro _)) | (show GO _ _ _ _ _ (⟨some _, none, .call _ _⟩ :: _) _; first | (refine go_callp rfl code_spec_validLoads.callable (fun H hH => specValidLoads_ok (hH.ints (by exact Has.auto)) (hH.ints (by exact Has.auto)) (by omega) (by omega)) ?_) | (refine go_callp rfl code_spec_riseTo.callable (fun H hH => specRiseTo_ok (hH.ints (by exact Has.auto)) (hH.ints (by exact Has.auto)) (by assumption) (by omega)) ?_)) | (show GO _ _ _ _ _ (⟨some _, none, _⟩ :: _) _; first | refine go_op (hk := ?_) | (refine go_nw (hk := ?_); intro u; try simp only [llc, lln, lna, lza]) | (refine go_np (hk := ?_); intro id)) | (show GD _ _ _ _ _ _ _ (⟨some _, none, _⟩ :: _) _; first | refine gd_op (hk := ?_) | (refine gd_nw (hk := ?_); intro u; try simp only [llc, lln, lna, lza])) | (show GD2 _ _ _ _ _ _ _ _ _ _ _ _ _ _; first | refine gd2_nil rfl ?_ | refine gd2_op (hk := ?_) | (refine gd2_nw (hk := ?_); intro u; try simp only [llc, lln, lna, lza]) | refine gd2_l (hk := ?_) | refine gd2_lp (hk := ?_) | (refine gd2_newp (hk := ?_); intro id) | refine gd2_st (hk := ?_) | (refine gd2_bsl rfl rfl ?_; intro u; try simp only [llc, lln, lna, lza]) | (refine gd2_a (hk := ?_); intro u; try simp only [llc, lln, lna, lza])) | (show GO _ _ _ _ _ (⟨none, none, _⟩ :: _) _; refine go_st (hk := ?_)) | (show GD _ _ _ _ _ _ _ (⟨none, none, _⟩ :: _) _; refine gd_st (hk := ?_)) | (show GO _ _ _ _ _ (⟨_, some _, _⟩ :: _) _; first | refine go_in (hk := ?_) | refine go_out (hk := ?_) | refine go_void (hk := ?_)) | (show GK _ _ _ _ (blockK _ _ _); refine gk_past rfl ?_) | (show GC _ _ _ _ _ (.cond _ _ _) _; first | refine gc_yes (h1 := ?_) | refine gc_no (h1 := ?_))))
    exact gk_rets (rvs_t rfl (rvs_c rfl (by exact Sel.auto) rfl rfl (rvs_t rfl rvs_nil))) fun H' hH => ⟨by unfold pkX; rw [if_neg h]; rfl, hH.leE⟩
  have hL := Decidable.not_not.1 h
  (repeat (first | refine gst (hk := ?_) | (with_reducible first | (refine gc_drw (h := ?_); intro _) | (refine gc_drw2 (h := ?_); intro _)) | (show GO _ _ _ _ _ (⟨some _, none, .call _ _⟩ :: _) _; first | (refine go_callp rfl code_spec_validLoads.callable (fun H hH => specValidLoads_ok (hH.ints (by exact Has.auto)) (hH.ints (by exact Has.auto)) (by omega) (by omega)) ?_) | (refine go_callp rfl code_spec_riseTo.callable (fun H hH => specRiseTo_ok (hH.ints (by exact Has.auto)) (hH.ints (by exact Has.auto)) (by assumption) (by omega)) ?_)) | (show GO _ _ _ _ _ (⟨some _, none, _⟩ :: _) _; first | refine go_op (hk := ?_) | (refine go_nw (hk := ?_); intro u; try simp only [llc, lln, lna, lza]) | (refine go_np (hk := ?_); intro id)) | (show GD _ _ _ _ _ _ _ (⟨some _, none, _⟩ :: _) _; first | refine gd_op (hk := ?_) | (refine gd_nw (hk := ?_); intro u; try simp only [llc, lln, lna, lza])) | (show GD2 _ _ _ _ _ _ _ _ _ _ _ _ _ _; first | refine gd2_nil rfl ?_ | refine gd2_op (hk := ?_) | (refine gd2_nw (hk := ?_); intro u; try simp only [llc, lln, lna, lza]) | refine gd2_l (hk := ?_) | refine gd2_lp (hk := ?_) | (refine gd2_newp (hk := ?_); intro id) | refine gd2_st (hk := ?_) | (refine gd2_bsl rfl rfl ?_; intro u; try simp only [llc, lln, lna, lza]) | (refine gd2_a (hk := ?_); intro u; try simp only [llc, lln, lna, lza])) | (show GO _ _ _ _ _ (⟨none, none, _⟩ :: _) _; refine go_st (hk := ?_)) | (show GD _ _ _ _ _ _ _ (⟨none, none, _⟩ :: _) _; refine gd_st (hk := ?_)) | (show GO _ _ _ _ _ (⟨_, some _, _⟩ :: _) _; first | refine go_in (hk := ?_) | refine go_out (hk := ?_) | refine go_void (hk := ?_)) | (show GK _ _ _ _ (blockK _ _ _); refine gk_past rfl ?_) | (show GC _ _ _ _ _ (.cond _ _ _) _; first | refine gc_yes (h1 := ?_) | refine gc_no (h1 := ?_))))
  refine go_callp rfl code_spec_riseTo.callable (fun H hH => specRiseTo_ok (k := 0) (hH.ints (by exact Has.auto)) (hH.ints (by exact Has.auto)) hL (by omega)) ?_
  (repeat (first | refine gst (hk := ?_) | (with_reducible first | (refine gc_drw (h := ?_); intro _) | (refine gc_drw2 (h := ?_); intro _)) | (show GO _ _ _ _ _ (⟨some _, none, .call _ _⟩ :: _) _; first | (refine go_callp rfl code_spec_validLoads.callable (fun H hH => specValidLoads_ok (hH.ints (by exact Has.auto)) (hH.ints (by exact Has.auto)) (by omega) (by omega)) ?_) | (refine go_callp rfl code_spec_riseTo.callable (fun H hH => specRiseTo_ok (hH.ints (by exact Has.auto)) (hH.ints (by exact Has.auto)) (by assumption) (by omega)) ?_)) | (show GO _ _ _ _ _ (⟨some _, none, _⟩ :: _) _; first | refine go_op (hk := ?_) | (refine go_nw (hk := ?_); intro u; try simp only [llc, lln, lna, lza]) | (refine go_np (hk := ?_); intro id)) | (show GD _ _ _ _ _ _ _ (⟨some _, none, _⟩ :: _) _; first | refine gd_op (hk := ?_) | (refine gd_nw (hk := ?_); intro u; try simp only [llc, lln, lna, lza])) | (show GD2 _ _ _ _ _ _ _ _ _ _ _ _ _ _; first | refine gd2_nil rfl ?_ | refine gd2_op (hk := ?_) | (refine gd2_nw (hk := ?_); intro u; try simp only [llc, lln, lna, lza]) | refine gd2_l (hk := ?_) | refine gd2_lp (hk := ?_) | (refine gd2_newp (hk := ?_); intro id) | refine gd2_st (hk := ?_) | (refine gd2_bsl rfl rfl ?_; intro u; try simp only [llc, lln, lna, lza]) | (refine gd2_a (hk := ?_); intro u; try simp only [llc, lln, lna, lza])) | (show GO _ _ _ _ _ (⟨none, none, _⟩ :: _) _; refine go_st (hk := ?_)) | (show GD _ _ _ _ _ _ _ (⟨none, none, _⟩ :: _) _; refine gd_st (hk := ?_)) | (show GO _ _ _ _ _ (⟨_, some _, _⟩ :: _) _; first | refine go_in (hk := ?_) | refine go_out (hk := ?_) | refine go_void (hk := ?_)) | (show GK _ _ _ _ (blockK _ _ _); refine gk_past rfl ?_) | (show GC _ _ _ _ _ (.cond _ _ _) _; first | refine gc_yes (h1 := ?_) | refine gc_no (h1 := ?_))))
  revert id; intro i8
  revert id; intro i5
  refine gc_up xs.length (fun k => [(0, a), (1, b), (5, .ptr i5 0), (7, .int .i64 (pkN xs ws k : Int)), (8, .ptr i8 0), (9, .int .i64 ((k + 1 : Nat) : Int))]) (fun k => [celF i8 (ptR xs ws (pkN xs ws k)), cel0 i5, .roI a xs.length xs, .roI b ws.length ws]) (hb := ?_)
  intro k hk I ν m hk2
  have hp := (pkN_is xs ws k).1
  (repeat (first | refine gst (hk := ?_) | (with_reducible first | (refine gc_drw (h := ?_); intro _) | (refine gc_drw2 (h := ?_); intro _)) | (show GO _ _ _ _ _ (⟨some _, none, .call _ _⟩ :: _) _; first | (refine go_callp rfl code_spec_validLoads.callable (fun H hH => specValidLoads_ok (hH.ints (by exact Has.auto)) (hH.ints (by exact Has.auto)) (by omega) (by omega)) ?_) | (refine go_callp rfl code_spec_riseTo.callable (fun H hH => specRiseTo_ok (hH.ints (by exact Has.auto)) (hH.ints (by exact Has.auto)) (by assumption) (by omega)) ?_)) | (show GO _ _ _ _ _ (⟨some _, none, _⟩ :: _) _; first | refine go_op (hk := ?_) | (refine go_nw (hk := ?_); intro u; try simp only [llc, lln, lna, lza]) | (refine go_np (hk := ?_); intro id)) | (show GD _ _ _ _ _ _ _ (⟨some _, none, _⟩ :: _) _; first | refine gd_op (hk := ?_) | (refine gd_nw (hk := ?_); intro u; try simp only [llc, lln, lna, lza])) | (show GD2 _ _ _ _ _ _ _ _ _ _ _ _ _ _; first | refine gd2_nil rfl ?_ | refine gd2_op (hk := ?_) | (refine gd2_nw (hk := ?_); intro u; try simp only [llc, lln, lna, lza]) | refine gd2_l (hk := ?_) | refine gd2_lp (hk := ?_) | (refine gd2_newp (hk := ?_); intro id) | refine gd2_st (hk := ?_) | (refine gd2_bsl rfl rfl ?_; intro u; try simp only [llc, lln, lna, lza]) | (refine gd2_a (hk := ?_); intro u; try simp only [llc, lln, lna, lza])) | (show GO _ _ _ _ _ (⟨none, none, _⟩ :: _) _; refine go_st (hk := ?_)) | (show GD _ _ _ _ _ _ _ (⟨none, none, _⟩ :: _) _; refine gd_st (hk := ?_)) | (show GO _ _ _ _ _ (⟨_, some _, _⟩ :: _) _; first | refine go_in (hk := ?_) | refine go_out (hk := ?_) | refine go_void (hk := ?_)) | (show GK _ _ _ _ (blockK _ _ _); refine gk_past rfl ?_) | (show GC _ _ _ _ _ (.cond _ _ _) _; first | refine gc_yes (h1 := ?_) | refine gc_no (h1 := ?_))))
  refine gc_cond rfl (fun h1 => ?_) (fun h1 => ?_)
  · have hk3 := hk2 (by omega)
    (repeat (first | refine gst (hk := ?_) | (with_reducible first | (refine gc_drw (h := ?_); intro _) | (refine gc_drw2 (h := ?_); intro _)) | (show GO _ _ _ _ _ (⟨some _, none, .call _ _⟩ :: _) _; first | (refine go_callp rfl code_spec_validLoads.callable (fun H hH => specValidLoads_ok (hH.ints (by exact Has.auto)) (hH.ints (by exact Has.auto)) (by omega) (by omega)) ?_) | (refine go_callp rfl code_spec_riseTo.callable (fun H hH => specRiseTo_ok (hH.ints (by exact Has.auto)) (hH.ints (by exact Has.auto)) (by assumption) (by omega)) ?_)) | (show GO _ _ _ _ _ (⟨some _, none, _⟩ :: _) _; first | refine go_op (hk := ?_) | (refine go_nw (hk := ?_); intro u; try simp only [llc, lln, lna, lza]) | (refine go_np (hk := ?_); intro id)) | (show GD _ _ _ _ _ _ _ (⟨some _, none, _⟩ :: _) _; first | refine gd_op (hk := ?_) | (refine gd_nw (hk := ?_); intro u; try simp only [llc, lln, lna, lza])) | (show GD2 _ _ _ _ _ _ _ _ _ _ _ _ _ _; first | refine gd2_nil rfl ?_ | refine gd2_op (hk := ?_) | (refine gd2_nw (hk := ?_); intro u; try simp only [llc, lln, lna, lza]) | refine gd2_l (hk := ?_) | refine gd2_lp (hk := ?_) | (refine gd2_newp (hk := ?_); intro id) | refine gd2_st (hk := ?_) | (refine gd2_bsl rfl rfl ?_; intro u; try simp only [llc, lln, lna, lza]) | (refine gd2_a (hk := ?_); intro u; try simp only [llc, lln, lna, lza])) | (show GO _ _ _ _ _ (⟨none, none, _⟩ :: _) _; refine go_st (hk := ?_)) | (show GD _ _ _ _ _ _ _ (⟨none, none, _⟩ :: _) _; refine gd_st (hk := ?_)) | (show GO _ _ _ _ _ (⟨_, some _, _⟩ :: _) _; first | refine go_in (hk := ?_) | refine go_out (hk := ?_) | refine go_void (hk := ?_)) | (show GK _ _ _ _ (blockK _ _ _); refine gk_past rfl ?_) | (show GC _ _ _ _ _ (.cond _ _ _) _; first | refine gc_yes (h1 := ?_) | refine gc_no (h1 := ?_))))
    refine go_callp rfl code_spec_less.callable (fun H hH => specLess_ok (hL.pt_fit (k := k + 1) (j := pkN xs ws k) (by omega) (by omega))) ?_
    (repeat (first | refine gst (hk := ?_) | (with_reducible first | (refine gc_drw (h := ?_); intro _) | (refine gc_drw2 (h := ?_); intro _)) | (show GO _ _ _ _ _ (⟨some _, none, .call _ _⟩ :: _) _; first | (refine go_callp rfl code_spec_validLoads.callable (fun H hH => specValidLoads_ok (hH.ints (by exact Has.auto)) (hH.ints (by exact Has.auto)) (by omega) (by omega)) ?_) | (refine go_callp rfl code_spec_riseTo.callable (fun H hH => specRiseTo_ok (hH.ints (by exact Has.auto)) (hH.ints (by exact Has.auto)) (by assumption) (by omega)) ?_)) | (show GO _ _ _ _ _ (⟨some _, none, _⟩ :: _) _; first | refine go_op (hk := ?_) | (refine go_nw (hk := ?_); intro u; try simp only [llc, lln, lna, lza]) | (refine go_np (hk := ?_); intro id)) | (show GD _ _ _ _ _ _ _ (⟨some _, none, _⟩ :: _) _; first | refine gd_op (hk := ?_) | (refine gd_nw (hk := ?_); intro u; try simp only [llc, lln, lna, lza])) | (show GD2 _ _ _ _ _ _ _ _ _ _ _ _ _ _; first | refine gd2_nil rfl ?_ | refine gd2_op (hk := ?_) | (refine gd2_nw (hk := ?_); intro u; try simp only [llc, lln, lna, lza]) | refine gd2_l (hk := ?_) | refine gd2_lp (hk := ?_) | (refine gd2_newp (hk := ?_); intro id) | refine gd2_st (hk := ?_) | (refine gd2_bsl rfl rfl ?_; intro u; try simp only [llc, lln, lna, lza]) | (refine gd2_a (hk := ?_); intro u; try simp only [llc, lln, lna, lza])) | (show GO _ _ _ _ _ (⟨none, none, _⟩ :: _) _; refine go_st (hk := ?_)) | (show GD _ _ _ _ _ _ _ (⟨none, none, _⟩ :: _) _; refine gd_st (hk := ?_)) | (show GO _ _ _ _ _ (⟨_, some _, _⟩ :: _) _; first | refine go_in (hk := ?_) | refine go_out (hk := ?_) | refine go_void (hk := ?_)) | (show GK _ _ _ _ (blockK _ _ _); refine gk_past rfl ?_) | (show GC _ _ _ _ _ (.cond _ _ _) _; first | refine gc_yes (h1 := ?_) | refine gc_no (h1 := ?_))))
    refine gc_cond rfl (fun h2 => ?_) (fun h2 => ?_)
    · rw [show pkN xs ws (k + 1) = k + 1 from if_pos h2] at hk3
      (repeat (first | refine gst (hk := ?_) | (with_reducible first | (refine gc_drw (h := ?_); intro _) | (refine gc_drw2 (h := ?_); intro _)) | (show GO _ _ _ _ _ (⟨some _, none, .call _ _⟩ :: _) _; first | (refine go_callp rfl code_spec_validLoads.callable (fun H hH => specValidLoads_ok (hH.ints (by exact Has.auto)) (hH.ints (by exact Has.auto)) (by omega) (by omega)) ?_) | (refine go_callp rfl code_spec_riseTo.callable (fun H hH => specRiseTo_ok (hH.ints (by exact Has.auto)) (hH.ints (by exact Has.auto)) (by assumption) (by omega)) ?_)) | (show GO _ _ _ _ _ (⟨some _, none, _⟩ :: _) _; first | refine go_op (hk := ?_) | (refine go_nw (hk := ?_); intro u; try simp only [llc, lln, lna, lza]) | (refine go_np (hk := ?_); intro id)) | (show GD _ _ _ _ _ _ _ (⟨some _, none, _⟩ :: _) _; first | refine gd_op (hk := ?_) | (refine gd_nw (hk := ?_); intro u; try simp only [llc, lln, lna, lza])) | (show GD2 _ _ _ _ _ _ _ _ _ _ _ _ _ _; first | refine gd2_nil rfl ?_ | refine gd2_op (hk := ?_) | (refine gd2_nw (hk := ?_); intro u; try simp only [llc, lln, lna, lza]) | refine gd2_l (hk := ?_) | refine gd2_lp (hk := ?_) | (refine gd2_newp (hk := ?_); intro id) | refine gd2_st (hk := ?_) | (refine gd2_bsl rfl rfl ?_; intro u; try simp only [llc, lln, lna, lza]) | (refine gd2_a (hk := ?_); intro u; try simp only [llc, lln, lna, lza])) | (show GO _ _ _ _ _ (⟨none, none, _⟩ :: _) _; refine go_st (hk := ?_)) | (show GD _ _ _ _ _ _ _ (⟨none, none, _⟩ :: _) _; refine gd_st (hk := ?_)) | (show GO _ _ _ _ _ (⟨_, some _, _⟩ :: _) _; first | refine go_in (hk := ?_) | refine go_out (hk := ?_) | refine go_void (hk := ?_)) | (show GK _ _ _ _ (blockK _ _ _); refine gk_past rfl ?_) | (show GC _ _ _ _ _ (.cond _ _ _) _; first | refine gc_yes (h1 := ?_) | refine gc_no (h1 := ?_))))
      exact gk_next hk3
    · rw [show pkN xs ws (k + 1) = pkN xs ws k from if_neg h2] at hk3
      (repeat (first | refine gst (hk := ?_) | (with_reducible first | (refine gc_drw (h := ?_); intro _) | (refine gc_drw2 (h := ?_); intro _)) | (show GO _ _ _ _ _ (⟨some _, none, .call _ _⟩ :: _) _; first | (refine go_callp rfl code_spec_validLoads.callable (fun H hH => specValidLoads_ok (hH.ints (by exact Has.auto)) (hH.ints (by exact Has.auto)) (by omega) (by omega)) ?_) | (refine go_callp rfl code_spec_riseTo.callable (fun H hH => specRiseTo_ok (hH.ints (by exact Has.auto)) (hH.ints (by exact Has.auto)) (by assumption) (by omega)) ?_)) | (show GO _ _ _ _ _ (⟨some _, none, _⟩ :: _) _; first | refine go_op (hk := ?_) | (refine go_nw (hk := ?_); intro u; try simp only [llc, lln, lna, lza]) | (refine go_np (hk := ?_); intro id)) | (show GD _ _ _ _ _ _ _ (⟨some _, none, _⟩ :: _) _; first | refine gd_op (hk := ?_) | (refine gd_nw (hk := ?_); intro u; try simp only [llc, lln, lna, lza])) | (show GD2 _ _ _ _ _ _ _ _ _ _ _ _ _ _; first | refine gd2_nil rfl ?_ | refine gd2_op (hk := ?_) | (refine gd2_nw (hk := ?_); intro u; try simp only [llc, lln, lna, lza]) | refine gd2_l (hk := ?_) | refine gd2_lp (hk := ?_) | (refine gd2_newp (hk := ?_); intro id) | refine gd2_st (hk := ?_) | (refine gd2_bsl rfl rfl ?_; intro u; try simp only [llc, lln, lna, lza]) | (refine gd2_a (hk := ?_); intro u; try simp only [llc, lln, lna, lza])) | (show GO _ _ _ _ _ (⟨none, none, _⟩ :: _) _; refine go_st (hk := ?_)) | (show GD _ _ _ _ _ _ _ (⟨none, none, _⟩ :: _) _; refine gd_st (hk := ?_)) | (show GO _ _ _ _ _ (⟨_, some _, _⟩ :: _) _; first | refine go_in (hk := ?_) | refine go_out (hk := ?_) | refine go_void (hk := ?_)) | (show GK _ _ _ _ (blockK _ _ _); refine gk_past rfl ?_) | (show GC _ _ _ _ _ (.cond _ _ _) _; first | refine gc_yes (h1 := ?_) | refine gc_no (h1 := ?_))))
      exact gk_next hk3
  · obtain rfl : k = xs.length := by omega
    (repeat (first | refine gst (hk := ?_) | (with_reducible first | (refine gc_drw (h := ?_); intro _) | (refine gc_drw2 (h := ?_); intro _)) | (show GO _ _ _ _ _ (⟨some _, none, .call _ _⟩ :: _) _; first | (refine go_callp rfl code_spec_validLoads.callable (fun H hH => specValidLoads_ok (hH.ints (by exact Has.auto)) (hH.ints (by exact Has.auto)) (by omega) (by omega)) ?_) | (refine go_callp rfl code_spec_riseTo.callable (fun H hH => specRiseTo_ok (hH.ints (by exact Has.auto)) (hH.ints (by exact Has.auto)) (by assumption) (by omega)) ?_)) | (show GO _ _ _ _ _ (⟨some _, none, _⟩ :: _) _; first | refine go_op (hk := ?_) | (refine go_nw (hk := ?_); intro u; try simp only [llc, lln, lna, lza]) | (refine go_np (hk := ?_); intro id)) | (show GD _ _ _ _ _ _ _ (⟨some _, none, _⟩ :: _) _; first | refine gd_op (hk := ?_) | (refine gd_nw (hk := ?_); intro u; try simp only [llc, lln, lna, lza])) | (show GD2 _ _ _ _ _ _ _ _ _ _ _ _ _ _; first | refine gd2_nil rfl ?_ | refine gd2_op (hk := ?_) | (refine gd2_nw (hk := ?_); intro u; try simp only [llc, lln, lna, lza]) | refine gd2_l (hk := ?_) | refine gd2_lp (hk := ?_) | (refine gd2_newp (hk := ?_); intro id) | refine gd2_st (hk := ?_) | (refine gd2_bsl rfl rfl ?_; intro u; try simp only [llc, lln, lna, lza]) | (refine gd2_a (hk := ?_); intro u; try simp only [llc, lln, lna, lza])) | (show GO _ _ _ _ _ (⟨none, none, _⟩ :: _) _; refine go_st (hk := ?_)) | (show GD _ _ _ _ _ _ _ (⟨none, none, _⟩ :: _) _; refine gd_st (hk := ?_)) | (show GO _ _ _ _ _ (⟨_, some _, _⟩ :: _) _; first | refine go_in (hk := ?_) | refine go_out (hk := ?_) | refine go_void (hk := ?_)) | (show GK _ _ _ _ (blockK _ _ _); refine gk_past rfl ?_) | (show GC _ _ _ _ _ (.cond _ _ _) _; first | refine gc_yes (h1 := ?_) | refine gc_no (h1 := ?_))))
    exact gk_rets (rvs_t rfl (rvs_c rfl (by exact Sel.auto) rfl rfl (rvs_t rfl rvs_nil))) fun H' hH => ⟨by unfold pkX; rw [if_pos hL]; rfl, hH.leE⟩

theorem someLoads_ok {A : Heap} {X : List Nat} {S S0 : Sig} {H : Heap} {id p : Nat} {bv : AV} {bs : List Int} (hS : SOk A X S H.size H) (hs : Sel S (rdr id bv p) S0) (hR : SubF S0 [byt bv bs]) (hb : ByteOk bs) (hp : p ≤ 1000000) :
    ACalls Try.prog fn_spec_someLoads [.ptr id 0] H fun r H' => ∃ g : D2, r = .tuple [g.u, g.v] ∧ SOk A X (.rwI g.v g.ys.length g.ys :: .rwI g.u g.xs.length g.xs :: rdr id bv g.q :: S0) H'.size H' ∧ g.xs.length ≤ 21 ∧ Bd 1000 g.xs ∧ g.ys.length ≤ 21 ∧ Bd 1000 g.ys ∧ g.q ≤ p + 60 := by
  refine code_spec_someLoads.gowg (V := fun g : D2 => .tuple [g.u, g.v]) (T := fun g => [.rwI g.v g.ys.length g.ys, .rwI g.u g.xs.length g.xs]) (C := fun g => rdr id bv g.q) (Φ := fun g => g.xs.length ≤ 21 ∧ Bd 1000 g.xs ∧ g.ys.length ≤ 21 ∧ Bd 1000 g.ys ∧ g.q ≤ p + 60) hS hs rfl hR rfl (fun _ => rfl) (fun _ => rfl) (fun _ => rfl) (by simp) ?_
  intro X'
  unfold mc_spec_someLoads
  (repeat (first | refine gst (hk := ?_) | (show GO _ _ _ _ _ (⟨some _, none, .call _ _⟩ :: _) _; first | (refine go_callg rfl code_spec_reader_one.callable (fun H hH => one_ok hH (by exact Sel.auto) (by exact SubF.auto) (by rfl) (by assumption) (by omega) (by first | omega | decide) (by first | omega | decide)) ?_; intro g hg) | (refine go_callg rfl code_spec_reader_pick.callable (fun H hH => pick_ok hH (by exact Sel.auto) (by exact SubF.auto) (by assumption) (by omega)) ?_; intro g hg)) | (show GO _ _ _ _ _ (⟨some _, none, _⟩ :: _) _; first | refine go_op (hk := ?_) | (refine go_nw (hk := ?_); intro u; try simp only [llc, lln, lna, lza]) | (refine go_np (hk := ?_); intro id)) | (show GO _ _ _ _ _ (⟨none, none, _⟩ :: _) _; refine go_st (hk := ?_)) | (show GO _ _ _ _ _ (⟨_, some _, _⟩ :: _) _; first | refine go_in (hk := ?_) | refine go_out (hk := ?_) | refine go_void (hk := ?_)) | (show GK _ _ _ _ (blockK _ _ _); refine gk_past rfl ?_) | (show GC _ _ _ _ _ (.cond _ _ _) _; first | refine gc_yes (h1 := ?_) | refine gc_no (h1 := ?_))))
  rename_i u4 u5
  obtain ⟨n, rfl⟩ : ∃ z, z = g := ⟨g, rfl⟩
  have hn7 : n ≤ 8 := by simp only [List.mem_cons, List.not_mem_nil, or_false] at hg; omega
  clear hg
  refine gc_loop (γ := D2) (fun t => [(0, .ptr id 0), (4, t.u), (5, t.v), (6, .int .i64 n)]) (fun t => [.rwI t.u t.xs.length t.xs, .rwI t.v t.ys.length t.ys, rdr id bv t.q, byt bv bs]) (fun t => t.xs.length ≤ 8 ∧ t.ys.length = t.xs.length ∧ Bd 1000 t.xs ∧ Bd 1000 t.ys ∧ t.q ≤ p + 1 + 5 * t.xs.length) (fun t => 8 - t.xs.length) ⟨u4, u5, [], [], p + 1⟩ ⟨by simp, by simp, by simp [Bd], by simp [Bd], by simp⟩ (hb := ?_)
  rintro ⟨w4, w5, xs, ys, q⟩ ⟨h1, h2, h3, h4, h5⟩ I ν m hk
  simp only at h1 h2 h3 h4 h5 hk ⊢
  (repeat (first | refine gst (hk := ?_) | (show GO _ _ _ _ _ (⟨some _, none, .call _ _⟩ :: _) _; first | (refine go_callg rfl code_spec_reader_one.callable (fun H hH => one_ok hH (by exact Sel.auto) (by exact SubF.auto) (by rfl) (by assumption) (by omega) (by first | omega | decide) (by first | omega | decide)) ?_; intro g hg) | (refine go_callg rfl code_spec_reader_pick.callable (fun H hH => pick_ok hH (by exact Sel.auto) (by exact SubF.auto) (by assumption) (by omega)) ?_; intro g hg)) | (show GO _ _ _ _ _ (⟨some _, none, _⟩ :: _) _; first | refine go_op (hk := ?_) | (refine go_nw (hk := ?_); intro u; try simp only [llc, lln, lna, lza]) | (refine go_np (hk := ?_); intro id)) | (show GO _ _ _ _ _ (⟨none, none, _⟩ :: _) _; refine go_st (hk := ?_)) | (show GO _ _ _ _ _ (⟨_, some _, _⟩ :: _) _; first | refine go_in (hk := ?_) | refine go_out (hk := ?_) | refine go_void (hk := ?_)) | (show GK _ _ _ _ (blockK _ _ _); refine gk_past rfl ?_) | (show GC _ _ _ _ _ (.cond _ _ _) _; first | refine gc_yes (h1 := ?_) | refine gc_no (h1 := ?_))))
  refine gc_cond rfl (fun h6 => ?_) (fun h6 => ?_)
  · (repeat (first | refine gst (hk := ?_) | (show GO _ _ _ _ _ (⟨some _, none, .call _ _⟩ :: _) _; first | (refine go_callg rfl code_spec_reader_one.callable (fun H hH => one_ok hH (by exact Sel.auto) (by exact SubF.auto) (by rfl) (by assumption) (by omega) (by first | omega | decide) (by first | omega | decide)) ?_; intro g hg) | (refine go_callg rfl code_spec_reader_pick.callable (fun H hH => pick_ok hH (by exact Sel.auto) (by exact SubF.auto) (by assumption) (by omega)) ?_; intro g hg)) | (show GO _ _ _ _ _ (⟨some _, none, _⟩ :: _) _; first | refine go_op (hk := ?_) | (refine go_nw (hk := ?_); intro u; try simp only [llc, lln, lna, lza]) | (refine go_np (hk := ?_); intro id)) | (show GO _ _ _ _ _ (⟨none, none, _⟩ :: _) _; refine go_st (hk := ?_)) | (show GO _ _ _ _ _ (⟨_, some _, _⟩ :: _) _; first | refine go_in (hk := ?_) | refine go_out (hk := ?_) | refine go_void (hk := ?_)) | (show GK _ _ _ _ (blockK _ _ _); refine gk_past rfl ?_) | (show GC _ _ _ _ _ (.cond _ _ _) _; first | refine gc_yes (h1 := ?_) | refine gc_no (h1 := ?_))))
    rename_i p1 hp1
    refine gc_cond rfl (fun h7 => ?_) (fun h7 => ?_)
    · (repeat (first | refine gst (hk := ?_) | (show GO _ _ _ _ _ (⟨some _, none, .call _ _⟩ :: _) _; first | (refine go_callg rfl code_spec_reader_one.callable (fun H hH => one_ok hH (by exact Sel.auto) (by exact SubF.auto) (by rfl) (by assumption) (by omega) (by first | omega | decide) (by first | omega | decide)) ?_; intro g hg) | (refine go_callg rfl code_spec_reader_pick.callable (fun H hH => pick_ok hH (by exact Sel.auto) (by exact SubF.auto) (by assumption) (by omega)) ?_; intro g hg)) | (show GO _ _ _ _ _ (⟨some _, none, _⟩ :: _) _; first | refine go_op (hk := ?_) | (refine go_nw (hk := ?_); intro u; try simp only [llc, lln, lna, lza]) | (refine go_np (hk := ?_); intro id)) | (show GO _ _ _ _ _ (⟨none, none, _⟩ :: _) _; refine go_st (hk := ?_)) | (show GO _ _ _ _ _ (⟨_, some _, _⟩ :: _) _; first | refine go_in (hk := ?_) | refine go_out (hk := ?_) | refine go_void (hk := ?_)) | (show GK _ _ _ _ (blockK _ _ _); refine gk_past rfl ?_) | (show GC _ _ _ _ _ (.cond _ _ _) _; first | refine gc_yes (h1 := ?_) | refine gc_no (h1 := ?_))))
      rename_i p2 hp2 p3 hp3 ua ux p4 hp4 uc ud
      have hx : -1000 ≤ p3 - 30 ∧ p3 - 30 ≤ 1000 := by omega
      have hg2 : -1000 ≤ g ∧ g ≤ 1000 := by simp only [List.mem_cons, List.not_mem_nil, or_false] at hg; omega
      have hk := hk ⟨ux, u, xs ++ [p3 - 30], ys ++ [g], q + 1 + 1 + 1 + 1 + 1⟩ ⟨by simp; omega, by simp; omega, h3.app (Bd.one hx), h4.app (Bd.one hg2), by simp only [List.length_append, List.length_cons, List.length_nil]; omega⟩ (by simp; omega)
      simp only [List.length_append, List.length_cons, List.length_nil, Nat.zero_add] at hk
      exact gk_next hk
    · (repeat (first | refine gst (hk := ?_) | (show GO _ _ _ _ _ (⟨some _, none, .call _ _⟩ :: _) _; first | (refine go_callg rfl code_spec_reader_one.callable (fun H hH => one_ok hH (by exact Sel.auto) (by exact SubF.auto) (by rfl) (by assumption) (by omega) (by first | omega | decide) (by first | omega | decide)) ?_; intro g hg) | (refine go_callg rfl code_spec_reader_pick.callable (fun H hH => pick_ok hH (by exact Sel.auto) (by exact SubF.auto) (by assumption) (by omega)) ?_; intro g hg)) | (show GO _ _ _ _ _ (⟨some _, none, _⟩ :: _) _; first | refine go_op (hk := ?_) | (refine go_nw (hk := ?_); intro u; try simp only [llc, lln, lna, lza]) | (refine go_np (hk := ?_); intro id)) | (show GO _ _ _ _ _ (⟨none, none, _⟩ :: _) _; refine go_st (hk := ?_)) | (show GO _ _ _ _ _ (⟨_, some _, _⟩ :: _) _; first | refine go_in (hk := ?_) | refine go_out (hk := ?_) | refine go_void (hk := ?_)) | (show GK _ _ _ _ (blockK _ _ _); refine gk_past rfl ?_) | (show GC _ _ _ _ _ (.cond _ _ _) _; first | refine gc_yes (h1 := ?_) | refine gc_no (h1 := ?_))))
      rename_i p2 hp2 ua ux p4 hp4 uc ud
      have hx : -1000 ≤ p1 - 6 ∧ p1 - 6 ≤ 1000 := by omega
      have hg2 : -1000 ≤ g ∧ g ≤ 1000 := by simp only [List.mem_cons, List.not_mem_nil, or_false] at hg; omega
      have hk := hk ⟨ux, u, xs ++ [p1 - 6], ys ++ [g], q + 1 + 1 + 1 + 1⟩ ⟨by simp; omega, by simp; omega, h3.app (Bd.one hx), h4.app (Bd.one hg2), by simp only [List.length_append, List.length_cons, List.length_nil]; omega⟩ (by simp; omega)
      simp only [List.length_append, List.length_cons, List.length_nil, Nat.zero_add] at hk
      exact gk_next hk
  (repeat (first | refine gst (hk := ?_) | (show GO _ _ _ _ _ (⟨some _, none, .call _ _⟩ :: _) _; first | (refine go_callg rfl code_spec_reader_one.callable (fun H hH => one_ok hH (by exact Sel.auto) (by exact SubF.auto) (by rfl) (by assumption) (by omega) (by first | omega | decide) (by first | omega | decide)) ?_; intro g hg) | (refine go_callg rfl code_spec_reader_pick.callable (fun H hH => pick_ok hH (by exact Sel.auto) (by exact SubF.auto) (by assumption) (by omega)) ?_; intro g hg)) | (show GO _ _ _ _ _ (⟨some _, none, _⟩ :: _) _; first | refine go_op (hk := ?_) | (refine go_nw (hk := ?_); intro u; try simp only [llc, lln, lna, lza]) | (refine go_np (hk := ?_); intro id)) | (show GO _ _ _ _ _ (⟨none, none, _⟩ :: _) _; refine go_st (hk := ?_)) | (show GO _ _ _ _ _ (⟨_, some _, _⟩ :: _) _; first | refine go_in (hk := ?_) | refine go_out (hk := ?_) | refine go_void (hk := ?_)) | (show GK _ _ _ _ (blockK _ _ _); refine gk_past rfl ?_) | (show GC _ _ _ _ _ (.cond _ _ _) _; first | refine gc_yes (h1 := ?_) | refine gc_no (h1 := ?_))))
  refine gc_cond rfl (fun h7 => ?_) (fun h7 => ?_)
  · (repeat (first | refine gst (hk := ?_) | (show GO _ _ _ _ _ (⟨some _, none, .call _ _⟩ :: _) _; first | (refine go_callg rfl code_spec_reader_one.callable (fun H hH => one_ok hH (by exact Sel.auto) (by exact SubF.auto) (by rfl) (by assumption) (by omega) (by first | omega | decide) (by first | omega | decide)) ?_; intro g hg) | (refine go_callg rfl code_spec_reader_pick.callable (fun H hH => pick_ok hH (by exact Sel.auto) (by exact SubF.auto) (by assumption) (by omega)) ?_; intro g hg)) | (show GO _ _ _ _ _ (⟨some _, none, _⟩ :: _) _; first | refine go_op (hk := ?_) | (refine go_nw (hk := ?_); intro u; try simp only [llc, lln, lna, lza]) | (refine go_np (hk := ?_); intro id)) | (show GO _ _ _ _ _ (⟨none, none, _⟩ :: _) _; refine go_st (hk := ?_)) | (show GO _ _ _ _ _ (⟨_, some _, _⟩ :: _) _; first | refine go_in (hk := ?_) | refine go_out (hk := ?_) | refine go_void (hk := ?_)) | (show GK _ _ _ _ (blockK _ _ _); refine gk_past rfl ?_) | (show GC _ _ _ _ _ (.cond _ _ _) _; first | refine gc_yes (h1 := ?_) | refine gc_no (h1 := ?_))))
    refine gk_ret rfl fun H' hH => ⟨⟨w4, u, xs, ys ++ [1], q + 1⟩, rfl, ⟨by simp only; omega, h3, by simp; omega, h4.app (Bd.one (by omega)), by simp only; omega⟩, ?_⟩
    show SOk H X' [.rwI u (ys ++ [1]).length (ys ++ [1]), .rwI w4 xs.length xs, rdr id bv (q + 1)] H'.size H'
    rw [show (ys ++ [(1 : Int)]).length = ys.length + 1 by simp]
    exact hH.sub (by exact Sub.auto)
  (repeat (first | refine gst (hk := ?_) | (show GO _ _ _ _ _ (⟨some _, none, .call _ _⟩ :: _) _; first | (refine go_callg rfl code_spec_reader_one.callable (fun H hH => one_ok hH (by exact Sel.auto) (by exact SubF.auto) (by rfl) (by assumption) (by omega) (by first | omega | decide) (by first | omega | decide)) ?_; intro g hg) | (refine go_callg rfl code_spec_reader_pick.callable (fun H hH => pick_ok hH (by exact Sel.auto) (by exact SubF.auto) (by assumption) (by omega)) ?_; intro g hg)) | (show GO _ _ _ _ _ (⟨some _, none, _⟩ :: _) _; first | refine go_op (hk := ?_) | (refine go_nw (hk := ?_); intro u; try simp only [llc, lln, lna, lza]) | (refine go_np (hk := ?_); intro id)) | (show GO _ _ _ _ _ (⟨none, none, _⟩ :: _) _; refine go_st (hk := ?_)) | (show GO _ _ _ _ _ (⟨_, some _, _⟩ :: _) _; first | refine go_in (hk := ?_) | refine go_out (hk := ?_) | refine go_void (hk := ?_)) | (show GK _ _ _ _ (blockK _ _ _); refine gk_past rfl ?_) | (show GC _ _ _ _ _ (.cond _ _ _) _; first | refine gc_yes (h1 := ?_) | refine gc_no (h1 := ?_))))
  refine gc_cond rfl (fun h8 => ?_) (fun h8 => ?_)
  · (repeat (first | refine gst (hk := ?_) | (show GO _ _ _ _ _ (⟨some _, none, .call _ _⟩ :: _) _; first | (refine go_callg rfl code_spec_reader_one.callable (fun H hH => one_ok hH (by exact Sel.auto) (by exact SubF.auto) (by rfl) (by assumption) (by omega) (by first | omega | decide) (by first | omega | decide)) ?_; intro g hg) | (refine go_callg rfl code_spec_reader_pick.callable (fun H hH => pick_ok hH (by exact Sel.auto) (by exact SubF.auto) (by assumption) (by omega)) ?_; intro g hg)) | (show GO _ _ _ _ _ (⟨some _, none, _⟩ :: _) _; first | refine go_op (hk := ?_) | (refine go_nw (hk := ?_); intro u; try simp only [llc, lln, lna, lza]) | (refine go_np (hk := ?_); intro id)) | (show GO _ _ _ _ _ (⟨none, none, _⟩ :: _) _; refine go_st (hk := ?_)) | (show GO _ _ _ _ _ (⟨_, some _, _⟩ :: _) _; first | refine go_in (hk := ?_) | refine go_out (hk := ?_) | refine go_void (hk := ?_)) | (show GK _ _ _ _ (blockK _ _ _); refine gk_past rfl ?_) | (show GC _ _ _ _ _ (.cond _ _ _) _; first | refine gc_yes (h1 := ?_) | refine gc_no (h1 := ?_))))
    rename_i ua ux ub
    refine gk_ret rfl fun H' hH => ⟨⟨ux, u, xs ++ [31], ys ++ [1], q + 1⟩, rfl, ⟨by simp; omega, h3.app (Bd.one (by omega)), by simp; omega, h4.app (Bd.one (by omega)), by simp only; omega⟩, ?_⟩
    show SOk H X' [.rwI u (ys ++ [1]).length (ys ++ [1]), .rwI ux (xs ++ [31]).length (xs ++ [31]), rdr id bv (q + 1)] H'.size H'
    rw [show (ys ++ [(1 : Int)]).length = ys.length + 1 by simp, show (xs ++ [(31 : Int)]).length = xs.length + 1 by simp]
    exact hH.sub (by exact Sub.auto)
  (repeat (first | refine gst (hk := ?_) | (show GO _ _ _ _ _ (⟨some _, none, .call _ _⟩ :: _) _; first | (refine go_callg rfl code_spec_reader_one.callable (fun H hH => one_ok hH (by exact Sel.auto) (by exact SubF.auto) (by rfl) (by assumption) (by omega) (by first | omega | decide) (by first | omega | decide)) ?_; intro g hg) | (refine go_callg rfl code_spec_reader_pick.callable (fun H hH => pick_ok hH (by exact Sel.auto) (by exact SubF.auto) (by assumption) (by omega)) ?_; intro g hg)) | (show GO _ _ _ _ _ (⟨some _, none, _⟩ :: _) _; first | refine go_op (hk := ?_) | (refine go_nw (hk := ?_); intro u; try simp only [llc, lln, lna, lza]) | (refine go_np (hk := ?_); intro id)) | (show GO _ _ _ _ _ (⟨none, none, _⟩ :: _) _; refine go_st (hk := ?_)) | (show GO _ _ _ _ _ (⟨_, some _, _⟩ :: _) _; first | refine go_in (hk := ?_) | refine go_out (hk := ?_) | refine go_void (hk := ?_)) | (show GK _ _ _ _ (blockK _ _ _); refine gk_past rfl ?_) | (show GC _ _ _ _ _ (.cond _ _ _) _; first | refine gc_yes (h1 := ?_) | refine gc_no (h1 := ?_))))
  refine gc_cond rfl (fun h9 => ?_) (fun h9 => ?_)
  · (repeat (first | refine gst (hk := ?_) | (show GO _ _ _ _ _ (⟨some _, none, .call _ _⟩ :: _) _; first | (refine go_callg rfl code_spec_reader_one.callable (fun H hH => one_ok hH (by exact Sel.auto) (by exact SubF.auto) (by rfl) (by assumption) (by omega) (by first | omega | decide) (by first | omega | decide)) ?_; intro g hg) | (refine go_callg rfl code_spec_reader_pick.callable (fun H hH => pick_ok hH (by exact Sel.auto) (by exact SubF.auto) (by assumption) (by omega)) ?_; intro g hg)) | (show GO _ _ _ _ _ (⟨some _, none, _⟩ :: _) _; first | refine go_op (hk := ?_) | (refine go_nw (hk := ?_); intro u; try simp only [llc, lln, lna, lza]) | (refine go_np (hk := ?_); intro id)) | (show GO _ _ _ _ _ (⟨none, none, _⟩ :: _) _; refine go_st (hk := ?_)) | (show GO _ _ _ _ _ (⟨_, some _, _⟩ :: _) _; first | refine go_in (hk := ?_) | refine go_out (hk := ?_) | refine go_void (hk := ?_)) | (show GK _ _ _ _ (blockK _ _ _); refine gk_past rfl ?_) | (show GC _ _ _ _ _ (.cond _ _ _) _; first | refine gc_yes (h1 := ?_) | refine gc_no (h1 := ?_))))
    rename_i ua ux ub uc
    have hg2 : -1000 ≤ g ∧ g ≤ 1000 := by simp only [List.mem_cons, List.not_mem_nil, or_false] at hg; omega
    refine gk_ret rfl fun H' hH => ⟨⟨ux, u, xs ++ [1], ys ++ [g], q + 1 + 1⟩, rfl, ⟨by simp; omega, h3.app (Bd.one (by omega)), by simp; omega, h4.app (Bd.one hg2), by simp only; omega⟩, ?_⟩
    show SOk H X' [.rwI u (ys ++ [g]).length (ys ++ [g]), .rwI ux (xs ++ [1]).length (xs ++ [1]), rdr id bv (q + 1 + 1)] H'.size H'
    rw [show (ys ++ [g]).length = ys.length + 1 by simp, show (xs ++ [(1 : Int)]).length = xs.length + 1 by simp]
    exact hH.sub (by exact Sub.auto)
  (repeat (first | refine gst (hk := ?_) | (show GO _ _ _ _ _ (⟨some _, none, .call _ _⟩ :: _) _; first | (refine go_callg rfl code_spec_reader_one.callable (fun H hH => one_ok hH (by exact Sel.auto) (by exact SubF.auto) (by rfl) (by assumption) (by omega) (by first | omega | decide) (by first | omega | decide)) ?_; intro g hg) | (refine go_callg rfl code_spec_reader_pick.callable (fun H hH => pick_ok hH (by exact Sel.auto) (by exact SubF.auto) (by assumption) (by omega)) ?_; intro g hg)) | (show GO _ _ _ _ _ (⟨some _, none, _⟩ :: _) _; first | refine go_op (hk := ?_) | (refine go_nw (hk := ?_); intro u; try simp only [llc, lln, lna, lza]) | (refine go_np (hk := ?_); intro id)) | (show GO _ _ _ _ _ (⟨none, none, _⟩ :: _) _; refine go_st (hk := ?_)) | (show GO _ _ _ _ _ (⟨_, some _, _⟩ :: _) _; first | refine go_in (hk := ?_) | refine go_out (hk := ?_) | refine go_void (hk := ?_)) | (show GK _ _ _ _ (blockK _ _ _); refine gk_past rfl ?_) | (show GC _ _ _ _ _ (.cond _ _ _) _; first | refine gc_yes (h1 := ?_) | refine gc_no (h1 := ?_))))
  exact gk_ret rfl fun H' hH => ⟨⟨w4, w5, xs, ys, q + 1⟩, rfl, ⟨by simp only; omega, h3, by simp only; omega, h4, by simp only; omega⟩, hH.sub (by exact Sub.auto)⟩

theorem drawPeakOf_ok {A : Heap} {X : List Nat} {S : Sig} {H : Heap} {cv : AV} {bs : List Int} (hS : SOk A X S H.size H) (hh : Has S cv 1 bs.length (bytesL bs)) (hb : ∀ i, 0 ≤ nth bs i ∧ nth bs i ≤ 255) (hl : bs.length ≤ 1048576) :
    ACalls Try.prog fn_spec_DrawPeakOf [cv] H fun r H' => ∃ g : D2, r = .tuple [g.u, g.v] ∧ SOk A X (.rwI g.v g.ys.length g.ys :: .rwI g.u g.xs.length g.xs :: S) H'.size H' ∧ g.xs.length ≤ 21 ∧ Bd 1000 g.xs ∧ g.ys.length ≤ 21 ∧ Bd 1000 g.ys := by
  refine code_spec_DrawPeakOf.gon (R := [byt cv bs]) (V := fun g : D2 => .tuple [g.u, g.v]) (T := fun g => [.rwI g.v g.ys.length g.ys, .rwI g.u g.xs.length g.xs]) (Φ := fun g => g.xs.length ≤ 21 ∧ Bd 1000 g.xs ∧ g.ys.length ≤ 21 ∧ Bd 1000 g.ys) hS ⟨⟨rfl, hS.valsA hh⟩, trivial⟩ (fun _ => rfl) (by simp) ?_
  unfold mc_spec_DrawPeakOf
  (repeat (first | refine gst (hk := ?_) | (show GO _ _ _ _ _ (⟨some _, none, .call _ _⟩ :: _) _; first | (refine go_callg rfl code_spec_newReader.callable (fun H hH => newReaderC_ok hH (c := ⟨.cell, .ptr _ 0, 4, 1, [_, _, _, _]⟩) Sel.head rfl (by exact Has.auto) (by assumption) (by omega)) ?_; intro g hg) | (refine go_callg rfl code_spec_newReader.callable (fun H hH => newReader_ok hH (by exact Has.auto) (by assumption) (by omega)) ?_; intro g hg) | (refine go_callg rfl code_spec_someLoads.callable (fun H hH => someLoads_ok hH (by exact Sel.auto) (by exact SubF.auto) (by assumption) (by omega)) ?_; intro g hg)) | (show GO _ _ _ _ _ (⟨some _, none, _⟩ :: _) _; first | refine go_op (hk := ?_) | (refine go_nw (hk := ?_); intro u; try simp only [llc, lln, lna, lza]) | (refine go_np (hk := ?_); intro id)) | (show GO _ _ _ _ _ (⟨none, none, _⟩ :: _) _; refine go_st (hk := ?_)) | (show GO _ _ _ _ _ (⟨_, some _, _⟩ :: _) _; first | refine go_in (hk := ?_) | refine go_out (hk := ?_) | refine go_void (hk := ?_)) | (show GK _ _ _ _ (blockK _ _ _); refine gk_past rfl ?_) | (show GC _ _ _ _ _ (.cond _ _ _) _; first | refine gc_yes (h1 := ?_) | refine gc_no (h1 := ?_))))
  exact gk_ret rfl fun H' hH => ⟨g, rfl, ⟨hg.1, hg.2.1, hg.2.2.1, hg.2.2.2.1⟩, hH.sub (by exact Sub.auto)⟩

theorem hc_goS {P : Program} {A : Heap} {X : List Nat} {S : Sig} {f : FuncId} {mc : MC} {rs : List RV} {N : Nat} (h : HasCode P f mc rs N) {args : List AV} {H : Heap} {R : AV → Heap → Prop} (hS : SOk A X S H.size H) (hn : args.length ≤ N) (hw : GC P A X (argsE 0 args) S mc (retK rs R)) : ACalls P f args H R := by
  refine h.calls hn (hw.g _ ⟨fun i v hv => ?_, hS⟩)
  have := (argsE_init args 0 i v hv).2
  simpa using this

theorem hc_godS {P : Program} {A : Heap} {X : List Nat} {S : Sig} {f : FuncId} {mc : MC} {rs : List RV} {N : Nat} (h : HasCode P f mc rs N) {args : List AV} {H : Heap} {R : AV → Heap → Prop} (hS : SOk A X S H.size H) (hn : args.length ≤ N) (hw : GC P A X (argsE 0 args) S mc (retK rs R)) : ADefers P f args H R := by
  refine h.defers hn (hw.g _ ⟨fun i v hv => ?_, hS⟩)
  have := (argsE_init args 0 i v hv).2
  simpa using this

theorem hcd_goS {P : Program} {A : Heap} {X : List Nat} {S : Sig} {f : FuncId} {mc : MC} {rs : List RV} {N : Nat} (h : HasCodeD P f mc rs N) {args : List AV} {H : Heap} {R : AV → Heap → Prop} (hS : SOk A X S H.size H) (hn : args.length ≤ N) (hw : GC P A X ((N, .tuple []) :: argsE 0 args) S mc (retD P N rs R)) : ACalls P f args H R := by
  refine h.calls hn (hw.g _ ⟨fun i v hv => ?_, hS⟩)
  simp only [look] at hv
  by_cases hi : N = i
  · subst hi
    have : Nat.beq N N = true := by simp
    rw [this] at hv
    simp only [cond_true, Option.some.injEq] at hv
    subst hv
    simp only [init]
    rw [List.getD, List.getElem?_eq_none (by omega)]; rfl
  · have : Nat.beq N i = false := by
      cases hb : Nat.beq N i with
      | true => exact absurd (Nat.eq_of_beq_eq_true hb) hi
      | false => rfl
    rw [this] at hv
    have := (argsE_init args 0 i v hv).2
    simpa using this
/- either kind of a slice -/

theorem has_k {k : Kd} (h : k = .rw ∨ k = .ro) {S : Sig} {v : AV} {es n : Nat} {cs : List AV} : Has (⟨k, v, es, n, cs⟩ :: S) v es n cs := by
  rcases h with rfl | rfl
  · exact .rw
  · exact .ro

theorem has_memk {S : Sig} {c : Ch} (hc : c ∈ S) (h : c.k = .rw ∨ c.k = .ro) : Has S c.v c.es c.n c.cs := by
  induction S with
  | nil => simp at hc
  | cons d S ih =>
    rcases List.mem_cons.1 hc with rfl | hc
    · obtain ⟨k, v, es, n, cs⟩ := c
      exact has_k h
    · exact .tail (ih hc)
/- windows: parts of a slice that has no room behind them -/

def winV : AV → Nat → Nat → AV
  | .slice id off _ _ es, l, h => .slice id (off + l * es) (h - l) (some (h - l)) es
  | v, _, _ => v

theorem winV_bid {v : AV} {l h j : Nat} (hj : (winV v l h).bid = some j) : v.bid = some j := by
  cases v <;> first | exact hj | (simp [winV, AV.bid] at hj; done)

theorem stp_sl3 {A : Heap} {X : List Nat} {E : List (Nat × AV)} {S : Sig} {x lo hi mx : MX} {v : AV} {k n l h : Nat} {cs : List AV} (hx : evE E x = some v) (hl : evE E lo = some (.int .i64 (l : Int))) (hh : evE E hi = some (.int .i64 (h : Int))) (hm : evE E mx = some (.int .i64 (h : Int))) (hs : Has S v k n cs) (hb : l ≤ h ∧ h ≤ n) :
    Stp A X E S (.sl x (some lo) (some hi) (some mx) k) (Is (winV v l h) S) :=
  stp_pure fun τ H m nid hE hS => by
    have hv := hS.valsA hs
    have b1 : ∀ d, bnd n (some (AV.int .i64 (h : Int))) d = some h := by
      intro d; simp only [bnd]; rw [if_pos (by omega)]; simp
    have b2 : ∀ d, bnd h (some (AV.int .i64 (h : Int))) d = some h := by
      intro d; simp only [bnd]; rw [if_pos (by omega)]; simp
    have b3 : ∀ d, bnd h (some (AV.int .i64 (l : Int))) d = some l := by
      intro d; simp only [bnd]; rw [if_pos (by omega)]; simp
    simp only [mstep, ev_of hE hx, Option.map_some, ev_of hE hl, ev_of hE hh, ev_of hE hm, msl, hv.len, b1, b2, b3]
    cases v with
    | slice id off n' cap es =>
      have e2 : es = k := by
        rcases hv.esn with h | h
        · cases h
        · simpa [AV.es] using h
      subst e2
      simp [winV]
    | nilSlice => rfl
    | _ => exact absurd hv.sl (by simp [AV.isSlice])

theorem vals_win {α : Type} {c : α → List AV} {k : Nat} (hc : Cels c k) {H : Heap} {v : AV} {n l h : Nat} {L : List α} (hv : Vals H v k n (cellsK c L)) (hn : n = L.length) (hl : l ≤ h ∧ h ≤ n) : Vals H (winV v l h) k (h - l) (cellsK c ((L.drop l).take (h - l))) := by
  have hcl : (cellsK c ((L.drop l).take (h - l))).length = (h - l) * k := by rw [ck_len hc, List.length_take, List.length_drop, ← hn, Nat.min_eq_left (by omega)]
  cases v with
  | slice id off n' cap es =>
    have e1 : n' = n := hv.len
    have e2 : es = k := by
      rcases hv.esn with h | h
      · cases h
      · simpa [AV.es] using h
    subst e1; subst e2
    refine ⟨rfl, rfl, .inr rfl, hcl, ?_, fun j hj => hv.bid j (winV_bid hj)⟩
    have hr := hv.row
    simp only [winV, Heap.row] at hr ⊢
    by_cases h0 : h - l = 0
    · rw [if_pos h0, h0]; rfl
    · rw [if_neg (by omega)] at hr
      rw [if_neg h0]
      simp only [Heap.read] at hr ⊢
      split at hr
      · rename_i b hb
        split at hr
        · rename_i h1
          simp only [Option.some.injEq] at hr
          have hm : l * es + (h - l) * es = h * es := by rw [← Nat.add_mul]; congr 1; omega
          have hm2 : h * es ≤ n' * es := Nat.mul_le_mul_right es hl.2
          rw [if_pos (by omega), ← ck_take hc, ← ck_drop hc, ← hr, List.drop_take, List.drop_drop, List.take_take, Nat.min_eq_left (by omega)]
        · cases hr
      · cases hr
  | nilSlice =>
    have e1 : 0 = n := hv.len
    subst e1
    have : L = [] := List.eq_nil_of_length_eq_zero hn.symm
    subst this
    obtain rfl : l = 0 := by omega
    obtain rfl : h = 0 := by omega
    exact hv
  | _ => exact absurd hv.sl (by simp [AV.isSlice])

/-- the front of a slice of one's own, read -/
theorem vals_pre {α : Type} {c : α → List AV} {k : Nat} (hc : Cels c k) {H : Heap} {v : AV} {n h : Nat} {L : List α} (hv : Vals H v k n (cellsK c L)) (hn : n = L.length) (hl : h ≤ n) : Vals H (preW v h) k h (cellsK c (L.take h)) := by
  have hcl : (cellsK c (L.take h)).length = h * k := by rw [ck_len hc, List.length_take, ← hn, Nat.min_eq_left (by omega)]
  cases v with
  | slice id off n' cap es =>
    have e1 : n' = n := hv.len
    have e2 : es = k := by
      rcases hv.esn with h | h
      · cases h
      · simpa [AV.es] using h
    subst e1; subst e2
    refine ⟨rfl, rfl, .inr rfl, hcl, ?_, fun j hj => hv.bid j (by exact hj)⟩
    have hr := hv.row
    simp only [preW, Heap.row] at hr ⊢
    by_cases h0 : h = 0
    · subst h0; simp [cellsK]
    · rw [if_neg (by omega)] at hr
      rw [if_neg h0]
      simp only [Heap.read] at hr ⊢
      split at hr
      · rename_i b hb
        split at hr
        · rename_i h1
          simp only [Option.some.injEq] at hr
          have hm2 : h * es ≤ n' * es := Nat.mul_le_mul_right es hl
          rw [if_pos (by omega), ← ck_take hc, ← hr, List.take_take, Nat.min_eq_left (by omega)]
        · cases hr
      · cases hr
  | nilSlice =>
    have e1 : 0 = n := hv.len
    subst e1
    have : L = [] := List.eq_nil_of_length_eq_zero hn.symm
    subst this
    obtain rfl : h = 0 := by omega
    exact hv
  | _ => exact absurd hv.sl (by simp [AV.isSlice])

/-- what is behind a window stays: it is copied -/
theorem stp_appW {A : Heap} {X : List Nat} {E : List (Nat × AV)} {S : Sig} {x y : MX} {w : AV} {id off es n m' bytes : Nat} {cs news : List AV} (hx : evE E x = some (.slice id off n (some n) es)) (hy : evE E y = some w) (h1 : Has S (.slice id off n (some n) es) es n cs) (h2 : Has S w es m' news) (hn : 0 < n) (hm0 : 0 < m') (hone : news.all AV.one = true) (he : 0 < es) (hb : (n + m') * bytes ≤ 140737488355328) (hm2 : n + m' ≤ 1000000000000) :
    Stp A X E S (.app x y es bytes) (New fun u => ⟨.rw, u, es, n + m', cs ++ news⟩ :: S) := by
  refine ⟨?_⟩
  intro τ H m nid hE hS hm
  have hx' := hS.valsA h1
  have hy' := hS.valsA h2
  have hml : n + m' ≤ maxLen := by simp only [maxLen]; omega
  have hcm : (cs ++ news).length = (n + m') * es := by rw [List.length_append, hx'.cells, hy'.cells, Nat.add_mul]
  have ham := hS.am
  have hr := hx'.row
  simp only [Heap.row, Heap.read] at hr
  rw [if_neg (by omega)] at hr
  simp only [mstep, ev_of hE hx, ev_of hE hy]
  unfold mapp
  rw [if_pos hy'.sl, hy'.row]
  simp only
  rw [if_pos ⟨by rw [hy'.cells, hy'.len], hone, he⟩, hy'.len, if_neg (by omega), if_pos ⟨hb, hml, trivial⟩]
  split at hr
  · rename_i b hb'
    rw [hb']
    split at hr
    · rename_i hlen
      simp only [Option.some.injEq] at hr
      simp only
      rw [if_pos hlen, if_pos (by omega), hr]
      have hs := Heap.lt_new H nid (some ⟨true, cs ++ news⟩)
      refine ⟨_, _, _, nid + 1, rfl, rfl, ?_, by omega, Nat.le_refl _, Heap.size_le_new _ _ _⟩
      refine hS.add ?_ (by omega) hs ⟨?_, hcm, .inr ⟨nid, rfl, .inl (by omega), by simp [Heap.get_new]⟩⟩ ?_
      · intro id hid; rw [Heap.get_new, if_neg (by omega)]
      · intro k hk; simp only [AV.bid, Option.some.injEq] at hk; omega
      · intro k hk; simp only [AV.bid, Option.some.injEq] at hk; omega
    · cases hr
  · cases hr

/-- the first of two cells -/
theorem stp_st20 {A : Heap} {X : List Nat} {E : List (Nat × AV)} {S S0 : Sig} {p x : MX} {id es n : Nat} {w c1 c2 : AV} (hp : evE E p = some (.ptr id 0)) (hx : evE E x = some w) (hw : w.cells = [w]) (ho : w.one = true) (hs : Sel S ⟨.cell, .ptr id 0, es, n, [c1, c2]⟩ S0) : Stp A X E S (.st p x 1) (Is .any (⟨.cell, .ptr id 0, es, n, [w, c2]⟩ :: S0)) := by
  have := stp_stc (A := A) (X := X) (E := E) (j := 1) hp hx hs (by rw [hw]; rfl) (by rw [hw]; simp [ho]) (by simp)
  rw [hw] at this
  exact this

/-- what one may read is kept beside what is there -/
theorem go_read {P : Program} {A : Heap} {X : List Nat} {E : List (Nat × AV)} {S : Sig} {l : List MI} {K : St → Prop} {v w : AV} {es n m : Nat} {cs ds : List AV} (hh : ∀ H, Vals H v es n cs → Vals H w es m ds) (hs : (⟨.ro, v, es, n, cs⟩ : Ch) ∈ S) (hb : ∀ j, w.bid = some j → v.bid = some j) (h : GO P A X E (⟨.ro, w, es, m, ds⟩ :: S) l K) : GO P A X E S l K := by
  refine ⟨fun s hf => h.g s ⟨hf.env, ?_⟩⟩
  have hc := hf.ok.ch _ hs
  have hm : Has S v es n cs := has_memk (c := ⟨.ro, v, es, n, cs⟩) hs (.inr rfl)
  have hw := hh _ (hf.ok.valsA hm)
  refine ⟨hf.ok.le, hf.ok.am, hf.ok.mh, fun d hd => ?_, ?_⟩
  · rcases List.mem_cons.1 hd with rfl | hd
    · exact chRo hw
    · exact hf.ok.ch d hd
  · rw [List.pairwise_cons]
    refine ⟨fun d hd hwr k h1 h2 => ?_, hf.ok.ap⟩
    rcases hwr with hwr | hwr
    · cases hwr
    · -- d is written: it is apart from what is read
      by_cases e : d = ⟨.ro, v, es, n, cs⟩
      · subst e; cases hwr
      · have hap : Apart d ⟨.ro, v, es, n, cs⟩ := by
          obtain ⟨S0, h3, h4⟩ := sel_of_mem hd
          have hp := h3.ap hf.ok.ap
          rw [List.pairwise_cons] at hp
          rcases List.mem_cons.1 (h4.mem_iff.2 hs) with g | g
          · exact absurd g.symm e
          · exact hp.1 _ g
        exact hap (.inl hwr) k h2 (hb k h1)

def Steps (xs : List Int) : Prop := Bd 30 xs ∧ 1 ≤ xs.length ∧ xs.length ≤ 8

noncomputable instance (xs : List Int) : Decidable (Steps xs) := Classical.propDecidable _

theorem Steps.x {xs : List Int} (h : Steps xs) (j : Nat) : -30 ≤ nth xs j ∧ nth xs j ≤ 30 := h.1.nth (by omega) j

theorem validHeights_ok {H : Heap} {a : AV} {xs : List Int} (ha : Ints H a xs) (hl : xs.length ≤ 1000000000) :
    ACalls Try.prog fn_impl_validHeights [a] H fun r H' => r = .bool (decide (Steps xs)) ∧ H' = H := by
  refine ACalls.val ?_ rfl
  refine code_impl_validHeights.go [.roI a xs.length xs] ⟨⟨rfl, ha⟩, trivial⟩ (by simp) ?_
  unfold mc_impl_validHeights
  have no : (Steps xs → False) → decide (Steps xs) = false := fun h => decide_eq_false h
  (repeat (first | refine gst (hk := ?_) | (show GO _ _ _ _ _ (⟨some _, none, _⟩ :: _) _; first | refine go_op (hk := ?_) | (refine go_nw (hk := ?_); intro u; try simp only [llc, lln, lna, lza]) | (refine go_np (hk := ?_); intro id)) | (show GO _ _ _ _ _ (⟨none, none, _⟩ :: _) _; refine go_st (hk := ?_)) | (show GO _ _ _ _ _ (⟨_, some _, _⟩ :: _) _; first | refine go_in (hk := ?_) | refine go_out (hk := ?_) | refine go_void (hk := ?_)) | (show GK _ _ _ _ (blockK _ _ _); refine gk_past rfl ?_) | (show GC _ _ _ _ _ (.cond _ _ _) _; first | refine gc_yes (h1 := ?_) | refine gc_no (h1 := ?_))))
  refine go_split 8 rfl (fun h1 => ?_) (fun h1 => ?_)
  · (repeat (first | refine gst (hk := ?_) | (show GO _ _ _ _ _ (⟨some _, none, _⟩ :: _) _; first | refine go_op (hk := ?_) | (refine go_nw (hk := ?_); intro u; try simp only [llc, lln, lna, lza]) | (refine go_np (hk := ?_); intro id)) | (show GO _ _ _ _ _ (⟨none, none, _⟩ :: _) _; refine go_st (hk := ?_)) | (show GO _ _ _ _ _ (⟨_, some _, _⟩ :: _) _; first | refine go_in (hk := ?_) | refine go_out (hk := ?_) | refine go_void (hk := ?_)) | (show GK _ _ _ _ (blockK _ _ _); refine gk_past rfl ?_) | (show GC _ _ _ _ _ (.cond _ _ _) _; first | refine gc_yes (h1 := ?_) | refine gc_no (h1 := ?_))))
    exact gk_ret rfl fun H' hH => ⟨by rw [no fun h => by have := h.2.1; omega]; rfl, hH.leE⟩
  (repeat (first | refine gst (hk := ?_) | (show GO _ _ _ _ _ (⟨some _, none, _⟩ :: _) _; first | refine go_op (hk := ?_) | (refine go_nw (hk := ?_); intro u; try simp only [llc, lln, lna, lza]) | (refine go_np (hk := ?_); intro id)) | (show GO _ _ _ _ _ (⟨none, none, _⟩ :: _) _; refine go_st (hk := ?_)) | (show GO _ _ _ _ _ (⟨_, some _, _⟩ :: _) _; first | refine go_in (hk := ?_) | refine go_out (hk := ?_) | refine go_void (hk := ?_)) | (show GK _ _ _ _ (blockK _ _ _); refine gk_past rfl ?_) | (show GC _ _ _ _ _ (.cond _ _ _) _; first | refine gc_yes (h1 := ?_) | refine gc_no (h1 := ?_))))
  refine gc_cond rfl (fun h2 => ?_) (fun h2 => ?_)
  · (repeat (first | refine gst (hk := ?_) | (show GO _ _ _ _ _ (⟨some _, none, _⟩ :: _) _; first | refine go_op (hk := ?_) | (refine go_nw (hk := ?_); intro u; try simp only [llc, lln, lna, lza]) | (refine go_np (hk := ?_); intro id)) | (show GO _ _ _ _ _ (⟨none, none, _⟩ :: _) _; refine go_st (hk := ?_)) | (show GO _ _ _ _ _ (⟨_, some _, _⟩ :: _) _; first | refine go_in (hk := ?_) | refine go_out (hk := ?_) | refine go_void (hk := ?_)) | (show GK _ _ _ _ (blockK _ _ _); refine gk_past rfl ?_) | (show GC _ _ _ _ _ (.cond _ _ _) _; first | refine gc_yes (h1 := ?_) | refine gc_no (h1 := ?_))))
    exact gk_ret rfl fun H' hH => ⟨by rw [no fun h => by have := h.2.2; omega]; rfl, hH.leE⟩
  (repeat (first | refine gst (hk := ?_) | (show GO _ _ _ _ _ (⟨some _, none, _⟩ :: _) _; first | refine go_op (hk := ?_) | (refine go_nw (hk := ?_); intro u; try simp only [llc, lln, lna, lza]) | (refine go_np (hk := ?_); intro id)) | (show GO _ _ _ _ _ (⟨none, none, _⟩ :: _) _; refine go_st (hk := ?_)) | (show GO _ _ _ _ _ (⟨_, some _, _⟩ :: _) _; first | refine go_in (hk := ?_) | refine go_out (hk := ?_) | refine go_void (hk := ?_)) | (show GK _ _ _ _ (blockK _ _ _); refine gk_past rfl ?_) | (show GC _ _ _ _ _ (.cond _ _ _) _; first | refine gc_yes (h1 := ?_) | refine gc_no (h1 := ?_))))
  refine gc_loop (γ := Nat) (fun i => [(13, a), (14, .int .i64 (xs.length : Int)), (15, .int .i64 (i : Int))]) (fun _ => [.roI a xs.length xs]) (fun i => i ≤ xs.length ∧ ∀ j, j < i → -30 ≤ nth xs j ∧ nth xs j ≤ 30) (fun i => xs.length - i) 0 ⟨Nat.zero_le _, fun k hk => by omega⟩ (hb := ?_)
  rintro i ⟨hi, hp⟩ I ν m hk
  (repeat (first | refine gst (hk := ?_) | (show GO _ _ _ _ _ (⟨some _, none, _⟩ :: _) _; first | refine go_op (hk := ?_) | (refine go_nw (hk := ?_); intro u; try simp only [llc, lln, lna, lza]) | (refine go_np (hk := ?_); intro id)) | (show GO _ _ _ _ _ (⟨none, none, _⟩ :: _) _; refine go_st (hk := ?_)) | (show GO _ _ _ _ _ (⟨_, some _, _⟩ :: _) _; first | refine go_in (hk := ?_) | refine go_out (hk := ?_) | refine go_void (hk := ?_)) | (show GK _ _ _ _ (blockK _ _ _); refine gk_past rfl ?_) | (show GC _ _ _ _ _ (.cond _ _ _) _; first | refine gc_yes (h1 := ?_) | refine gc_no (h1 := ?_))))
  refine gc_cond rfl (fun h => ?_) (fun h => ?_)
  · (repeat (first | refine gst (hk := ?_) | (show GO _ _ _ _ _ (⟨some _, none, _⟩ :: _) _; first | refine go_op (hk := ?_) | (refine go_nw (hk := ?_); intro u; try simp only [llc, lln, lna, lza]) | (refine go_np (hk := ?_); intro id)) | (show GO _ _ _ _ _ (⟨none, none, _⟩ :: _) _; refine go_st (hk := ?_)) | (show GO _ _ _ _ _ (⟨_, some _, _⟩ :: _) _; first | refine go_in (hk := ?_) | refine go_out (hk := ?_) | refine go_void (hk := ?_)) | (show GK _ _ _ _ (blockK _ _ _); refine gk_past rfl ?_) | (show GC _ _ _ _ _ (.cond _ _ _) _; first | refine gc_yes (h1 := ?_) | refine gc_no (h1 := ?_))))
    refine go_split 21 rfl (fun h3 => ?_) (fun h3 => ?_)
    · (repeat (first | refine gst (hk := ?_) | (show GO _ _ _ _ _ (⟨some _, none, _⟩ :: _) _; first | refine go_op (hk := ?_) | (refine go_nw (hk := ?_); intro u; try simp only [llc, lln, lna, lza]) | (refine go_np (hk := ?_); intro id)) | (show GO _ _ _ _ _ (⟨none, none, _⟩ :: _) _; refine go_st (hk := ?_)) | (show GO _ _ _ _ _ (⟨_, some _, _⟩ :: _) _; first | refine go_in (hk := ?_) | refine go_out (hk := ?_) | refine go_void (hk := ?_)) | (show GK _ _ _ _ (blockK _ _ _); refine gk_past rfl ?_) | (show GC _ _ _ _ _ (.cond _ _ _) _; first | refine gc_yes (h1 := ?_) | refine gc_no (h1 := ?_))))
      exact gk_ret rfl fun H' hH => ⟨by rw [no fun hL => by have := hL.x i; omega]; rfl, hH.leE⟩
    (repeat (first | refine gst (hk := ?_) | (show GO _ _ _ _ _ (⟨some _, none, _⟩ :: _) _; first | refine go_op (hk := ?_) | (refine go_nw (hk := ?_); intro u; try simp only [llc, lln, lna, lza]) | (refine go_np (hk := ?_); intro id)) | (show GO _ _ _ _ _ (⟨none, none, _⟩ :: _) _; refine go_st (hk := ?_)) | (show GO _ _ _ _ _ (⟨_, some _, _⟩ :: _) _; first | refine go_in (hk := ?_) | refine go_out (hk := ?_) | refine go_void (hk := ?_)) | (show GK _ _ _ _ (blockK _ _ _); refine gk_past rfl ?_) | (show GC _ _ _ _ _ (.cond _ _ _) _; first | refine gc_yes (h1 := ?_) | refine gc_no (h1 := ?_))))
    refine gc_cond rfl (fun h4 => ?_) (fun h4 => ?_)
    · (repeat (first | refine gst (hk := ?_) | (show GO _ _ _ _ _ (⟨some _, none, _⟩ :: _) _; first | refine go_op (hk := ?_) | (refine go_nw (hk := ?_); intro u; try simp only [llc, lln, lna, lza]) | (refine go_np (hk := ?_); intro id)) | (show GO _ _ _ _ _ (⟨none, none, _⟩ :: _) _; refine go_st (hk := ?_)) | (show GO _ _ _ _ _ (⟨_, some _, _⟩ :: _) _; first | refine go_in (hk := ?_) | refine go_out (hk := ?_) | refine go_void (hk := ?_)) | (show GK _ _ _ _ (blockK _ _ _); refine gk_past rfl ?_) | (show GC _ _ _ _ _ (.cond _ _ _) _; first | refine gc_yes (h1 := ?_) | refine gc_no (h1 := ?_))))
      exact gk_ret rfl fun H' hH => ⟨by rw [no fun hL => by have := hL.x i; omega]; rfl, hH.leE⟩
    · (repeat (first | refine gst (hk := ?_) | (show GO _ _ _ _ _ (⟨some _, none, _⟩ :: _) _; first | refine go_op (hk := ?_) | (refine go_nw (hk := ?_); intro u; try simp only [llc, lln, lna, lza]) | (refine go_np (hk := ?_); intro id)) | (show GO _ _ _ _ _ (⟨none, none, _⟩ :: _) _; refine go_st (hk := ?_)) | (show GO _ _ _ _ _ (⟨_, some _, _⟩ :: _) _; first | refine go_in (hk := ?_) | refine go_out (hk := ?_) | refine go_void (hk := ?_)) | (show GK _ _ _ _ (blockK _ _ _); refine gk_past rfl ?_) | (show GC _ _ _ _ _ (.cond _ _ _) _; first | refine gc_yes (h1 := ?_) | refine gc_no (h1 := ?_))))
      refine gk_next (hk (i + 1) ⟨by omega, fun j hj => ?_⟩ (by omega))
      rcases Nat.lt_or_ge j i with h5 | h5
      · exact hp j h5
      · rw [show j = i by omega]; omega
  · obtain rfl : i = xs.length := by omega
    have h6 : Bd 30 xs := fun x hx => by
      obtain ⟨m, hm, rfl⟩ := nth_ex hx
      exact hp m hm
    (repeat (first | refine gst (hk := ?_) | (show GO _ _ _ _ _ (⟨some _, none, _⟩ :: _) _; first | refine go_op (hk := ?_) | (refine go_nw (hk := ?_); intro u; try simp only [llc, lln, lna, lza]) | (refine go_np (hk := ?_); intro id)) | (show GO _ _ _ _ _ (⟨none, none, _⟩ :: _) _; refine go_st (hk := ?_)) | (show GO _ _ _ _ _ (⟨_, some _, _⟩ :: _) _; first | refine go_in (hk := ?_) | refine go_out (hk := ?_) | refine go_void (hk := ?_)) | (show GK _ _ _ _ (blockK _ _ _); refine gk_past rfl ?_) | (show GC _ _ _ _ _ (.cond _ _ _) _; first | refine gc_yes (h1 := ?_) | refine gc_no (h1 := ?_))))
    exact gk_ret rfl fun H' hH => ⟨by
      have : Steps xs := ⟨h6, by omega, by omega⟩
      simp [tupleOf, this], hH.leE⟩

end Go.Rx.Try
