import Derived.Test.YtophpmdlgphihaiFnMeanOfD3
namespace Go.Rx.Try
open Go.Proofs
set_option maxRecDepth 100000
set_option maxHeartbeats 8000000
set_option linter.unusedSimpArgs false
set_option linter.unusedVariables false

theorem lawFnMeanOf_ok {H : Heap} {a : AV} {bs : List Int} (ha : Vals H a 1 bs.length (bs.map (.int .u8))) (hw : ∀ x ∈ bs, (Lit.int .u8 x).wf = true) : ACalls Try.prog fn_laws_FnMeanOf [a] H fun r _ => r = .bool true := by
  -- alt: refine go_is rfl (stp_ageqS rfl rfl) ?_
  -- alt: refine go_is rfl (stp_agneS rfl rfl) ?_
  have hb := bytes_of hw
  refine code_laws_FnMeanOf.go [byt a bs] ⟨⟨rfl, ha⟩, trivial⟩ (by simp) ?_
  unfold mc_laws_FnMeanOf
  (repeat (first | refine gst (hk := ?_) | (show GO _ _ _ _ _ (⟨some _, none, .call _ _⟩ :: _) _; first | (refine go_callg rfl code_spec_DrawMeanOf.callable (fun H hH => drawMeanOf_ok hH (by exact Has.auto) (by assumption) (by omega)) ?_; intro g hg) | (refine go_callp rfl code_impl_MeanOf.callable (fun H hH => implMeanOf_t (hH.ints (by exact Has.auto)) (hH.ints (by exact Has.auto)) (by omega) (by omega)) ?_) | (refine go_callp rfl code_spec_MeanOf.callable (fun H hH => specMeanOf_t (hH.ints (by exact Has.auto)) (hH.ints (by exact Has.auto)) (by omega) (by omega)) ?_) | (refine go_callp rfl code_laws_greatest.callable (fun H hH => greatest_ok (hH.ints (by exact Has.auto)) (by omega) (by omega)) ?_) | (refine go_calln rfl code_laws_negated.callable (fun H hH => negated_ok (hH.ints (by exact Has.auto)) (by omega) (by assumption)) ?_; intro u)) | (refine go_is rfl (stp_ageqS rfl rfl) ?_) | (refine go_is rfl (stp_agneS rfl rfl) ?_) | (show GO _ _ _ _ _ (⟨some _, none, _⟩ :: _) _; first | refine go_op (hk := ?_) | (refine go_nw (hk := ?_); intro u; try simp only [llc, lln, lna, lza]) | (refine go_np (hk := ?_); intro id)) | (show GO _ _ _ _ _ (⟨none, none, _⟩ :: _) _; refine go_st (hk := ?_)) | (show GO _ _ _ _ _ (⟨_, some _, _⟩ :: _) _; first | refine go_in (hk := ?_) | refine go_out (hk := ?_) | refine go_void (hk := ?_)) | (show GK _ _ _ _ (blockK _ _ _); refine gk_past rfl ?_) | (show GC _ _ _ _ _ (.cond _ _ _) _; first | refine gc_yes (h1 := ?_) | refine gc_no (h1 := ?_))))
  refine gc_cond rfl (fun h => ?_) (fun h => ?_)
  · (repeat (first | refine gst (hk := ?_) | (show GO _ _ _ _ _ (⟨some _, none, .call _ _⟩ :: _) _; first | (refine go_callg rfl code_spec_DrawMeanOf.callable (fun H hH => drawMeanOf_ok hH (by exact Has.auto) (by assumption) (by omega)) ?_; intro g hg) | (refine go_callp rfl code_impl_MeanOf.callable (fun H hH => implMeanOf_t (hH.ints (by exact Has.auto)) (hH.ints (by exact Has.auto)) (by omega) (by omega)) ?_) | (refine go_callp rfl code_spec_MeanOf.callable (fun H hH => specMeanOf_t (hH.ints (by exact Has.auto)) (hH.ints (by exact Has.auto)) (by omega) (by omega)) ?_) | (refine go_callp rfl code_laws_greatest.callable (fun H hH => greatest_ok (hH.ints (by exact Has.auto)) (by omega) (by omega)) ?_) | (refine go_calln rfl code_laws_negated.callable (fun H hH => negated_ok (hH.ints (by exact Has.auto)) (by omega) (by assumption)) ?_; intro u)) | (refine go_is rfl (stp_ageqS rfl rfl) ?_) | (refine go_is rfl (stp_agneS rfl rfl) ?_) | (show GO _ _ _ _ _ (⟨some _, none, _⟩ :: _) _; first | refine go_op (hk := ?_) | (refine go_nw (hk := ?_); intro u; try simp only [llc, lln, lna, lza]) | (refine go_np (hk := ?_); intro id)) | (show GO _ _ _ _ _ (⟨none, none, _⟩ :: _) _; refine go_st (hk := ?_)) | (show GO _ _ _ _ _ (⟨_, some _, _⟩ :: _) _; first | refine go_in (hk := ?_) | refine go_out (hk := ?_) | refine go_void (hk := ?_)) | (show GK _ _ _ _ (blockK _ _ _); refine gk_past rfl ?_) | (show GC _ _ _ _ _ (.cond _ _ _) _; first | refine gc_yes (h1 := ?_) | refine gc_no (h1 := ?_))))
    exact gk_ret rfl fun H' hH => rfl
  (repeat (first | refine gst (hk := ?_) | (show GO _ _ _ _ _ (⟨some _, none, .call _ _⟩ :: _) _; first | (refine go_callg rfl code_spec_DrawMeanOf.callable (fun H hH => drawMeanOf_ok hH (by exact Has.auto) (by assumption) (by omega)) ?_; intro g hg) | (refine go_callp rfl code_impl_MeanOf.callable (fun H hH => implMeanOf_t (hH.ints (by exact Has.auto)) (hH.ints (by exact Has.auto)) (by omega) (by omega)) ?_) | (refine go_callp rfl code_spec_MeanOf.callable (fun H hH => specMeanOf_t (hH.ints (by exact Has.auto)) (hH.ints (by exact Has.auto)) (by omega) (by omega)) ?_) | (refine go_callp rfl code_laws_greatest.callable (fun H hH => greatest_ok (hH.ints (by exact Has.auto)) (by omega) (by omega)) ?_) | (refine go_calln rfl code_laws_negated.callable (fun H hH => negated_ok (hH.ints (by exact Has.auto)) (by omega) (by assumption)) ?_; intro u)) | (refine go_is rfl (stp_ageqS rfl rfl) ?_) | (refine go_is rfl (stp_agneS rfl rfl) ?_) | (show GO _ _ _ _ _ (⟨some _, none, _⟩ :: _) _; first | refine go_op (hk := ?_) | (refine go_nw (hk := ?_); intro u; try simp only [llc, lln, lna, lza]) | (refine go_np (hk := ?_); intro id)) | (show GO _ _ _ _ _ (⟨none, none, _⟩ :: _) _; refine go_st (hk := ?_)) | (show GO _ _ _ _ _ (⟨_, some _, _⟩ :: _) _; first | refine go_in (hk := ?_) | refine go_out (hk := ?_) | refine go_void (hk := ?_)) | (show GK _ _ _ _ (blockK _ _ _); refine gk_past rfl ?_) | (show GC _ _ _ _ _ (.cond _ _ _) _; first | refine gc_yes (h1 := ?_) | refine gc_no (h1 := ?_))))
  obtain ⟨⟨gu, gv, xs, ws, gq⟩, i, k⟩ := g
  simp only at hg ⊢
  (repeat (first | refine gst (hk := ?_) | (show GO _ _ _ _ _ (⟨some _, none, .call _ _⟩ :: _) _; first | (refine go_callg rfl code_spec_DrawMeanOf.callable (fun H hH => drawMeanOf_ok hH (by exact Has.auto) (by assumption) (by omega)) ?_; intro g hg) | (refine go_callp rfl code_impl_MeanOf.callable (fun H hH => implMeanOf_t (hH.ints (by exact Has.auto)) (hH.ints (by exact Has.auto)) (by omega) (by omega)) ?_) | (refine go_callp rfl code_spec_MeanOf.callable (fun H hH => specMeanOf_t (hH.ints (by exact Has.auto)) (hH.ints (by exact Has.auto)) (by omega) (by omega)) ?_) | (refine go_callp rfl code_laws_greatest.callable (fun H hH => greatest_ok (hH.ints (by exact Has.auto)) (by omega) (by omega)) ?_) | (refine go_calln rfl code_laws_negated.callable (fun H hH => negated_ok (hH.ints (by exact Has.auto)) (by omega) (by assumption)) ?_; intro u)) | (refine go_is rfl (stp_ageqS rfl rfl) ?_) | (refine go_is rfl (stp_agneS rfl rfl) ?_) | (show GO _ _ _ _ _ (⟨some _, none, _⟩ :: _) _; first | refine go_op (hk := ?_) | (refine go_nw (hk := ?_); intro u; try simp only [llc, lln, lna, lza]) | (refine go_np (hk := ?_); intro id)) | (show GO _ _ _ _ _ (⟨none, none, _⟩ :: _) _; refine go_st (hk := ?_)) | (show GO _ _ _ _ _ (⟨_, some _, _⟩ :: _) _; first | refine go_in (hk := ?_) | refine go_out (hk := ?_) | refine go_void (hk := ?_)) | (show GK _ _ _ _ (blockK _ _ _); refine gk_past rfl ?_) | (show GC _ _ _ _ _ (.cond _ _ _) _; first | refine gc_yes (h1 := ?_) | refine gc_no (h1 := ?_))))
  refine go_split 46 rfl (fun hc => absurd trivial hc) (fun _ => ?_)
  (repeat (first | refine gst (hk := ?_) | (show GO _ _ _ _ _ (⟨some _, none, .call _ _⟩ :: _) _; first | (refine go_callg rfl code_spec_DrawMeanOf.callable (fun H hH => drawMeanOf_ok hH (by exact Has.auto) (by assumption) (by omega)) ?_; intro g hg) | (refine go_callp rfl code_impl_MeanOf.callable (fun H hH => implMeanOf_t (hH.ints (by exact Has.auto)) (hH.ints (by exact Has.auto)) (by omega) (by omega)) ?_) | (refine go_callp rfl code_spec_MeanOf.callable (fun H hH => specMeanOf_t (hH.ints (by exact Has.auto)) (hH.ints (by exact Has.auto)) (by omega) (by omega)) ?_) | (refine go_callp rfl code_laws_greatest.callable (fun H hH => greatest_ok (hH.ints (by exact Has.auto)) (by omega) (by omega)) ?_) | (refine go_calln rfl code_laws_negated.callable (fun H hH => negated_ok (hH.ints (by exact Has.auto)) (by omega) (by assumption)) ?_; intro u)) | (refine go_is rfl (stp_ageqS rfl rfl) ?_) | (refine go_is rfl (stp_agneS rfl rfl) ?_) | (show GO _ _ _ _ _ (⟨some _, none, _⟩ :: _) _; first | refine go_op (hk := ?_) | (refine go_nw (hk := ?_); intro u; try simp only [llc, lln, lna, lza]) | (refine go_np (hk := ?_); intro id)) | (show GO _ _ _ _ _ (⟨none, none, _⟩ :: _) _; refine go_st (hk := ?_)) | (show GO _ _ _ _ _ (⟨_, some _, _⟩ :: _) _; first | refine go_in (hk := ?_) | refine go_out (hk := ?_) | refine go_void (hk := ?_)) | (show GK _ _ _ _ (blockK _ _ _); refine gk_past rfl ?_) | (show GC _ _ _ _ _ (.cond _ _ _) _; first | refine gc_yes (h1 := ?_) | refine gc_no (h1 := ?_))))
  refine gc_cond rfl (fun h2 => ?_) (fun h2 => ?_)
  · (repeat (first | refine gst (hk := ?_) | (show GO _ _ _ _ _ (⟨some _, none, .call _ _⟩ :: _) _; first | (refine go_callg rfl code_spec_DrawMeanOf.callable (fun H hH => drawMeanOf_ok hH (by exact Has.auto) (by assumption) (by omega)) ?_; intro g hg) | (refine go_callp rfl code_impl_MeanOf.callable (fun H hH => implMeanOf_t (hH.ints (by exact Has.auto)) (hH.ints (by exact Has.auto)) (by omega) (by omega)) ?_) | (refine go_callp rfl code_spec_MeanOf.callable (fun H hH => specMeanOf_t (hH.ints (by exact Has.auto)) (hH.ints (by exact Has.auto)) (by omega) (by omega)) ?_) | (refine go_callp rfl code_laws_greatest.callable (fun H hH => greatest_ok (hH.ints (by exact Has.auto)) (by omega) (by omega)) ?_) | (refine go_calln rfl code_laws_negated.callable (fun H hH => negated_ok (hH.ints (by exact Has.auto)) (by omega) (by assumption)) ?_; intro u)) | (refine go_is rfl (stp_ageqS rfl rfl) ?_) | (refine go_is rfl (stp_agneS rfl rfl) ?_) | (show GO _ _ _ _ _ (⟨some _, none, _⟩ :: _) _; first | refine go_op (hk := ?_) | (refine go_nw (hk := ?_); intro u; try simp only [llc, lln, lna, lza]) | (refine go_np (hk := ?_); intro id)) | (show GO _ _ _ _ _ (⟨none, none, _⟩ :: _) _; refine go_st (hk := ?_)) | (show GO _ _ _ _ _ (⟨_, some _, _⟩ :: _) _; first | refine go_in (hk := ?_) | refine go_out (hk := ?_) | refine go_void (hk := ?_)) | (show GK _ _ _ _ (blockK _ _ _); refine gk_past rfl ?_) | (show GC _ _ _ _ _ (.cond _ _ _) _; first | refine gc_yes (h1 := ?_) | refine gc_no (h1 := ?_))))
    exact gk_ret rfl fun H' hH => by simp [tupleOf]
  have hM : MeOk xs ws i k := Decidable.not_not.1 h2
  obtain ⟨hL, hi, hkk⟩ := hM
  have hl := hL.2.2.1
  have hn := hL.2.2.2.2
  obtain ⟨I, rfl⟩ : ∃ I : Nat, i = (I : Int) := ⟨i.toNat, by omega⟩
  obtain ⟨K, rfl⟩ : ∃ K : Nat, k = (K : Int) := ⟨k.toNat, by omega⟩
  have gN : ∀ q, opN (MeOk xs ws (I : Int) (K : Int)) q = q.num := fun q => by unfold opN; rw [if_pos ⟨hL, hi, hkk⟩]
  have gD : ∀ q, opD (MeOk xs ws (I : Int) (K : Int)) q = (q.den : Int) := fun q => by unfold opD; rw [if_pos ⟨hL, hi, hkk⟩]
  have eI : ((I : Int)).toNat = I := by omega
  have eK : ((K : Int)).toNat = K := by omega
  obtain ⟨ys, hys⟩ : ∃ ys, ys = (xs.drop I).take (K + 1 - I) := ⟨_, rfl⟩
  have yl : ys.length = K + 1 - I := by rw [hys, List.length_take, List.length_drop]; omega
  have yn : ∀ j, j < K + 1 - I → nth ys j = nth xs (I + j) := fun j hj => by
    rw [nth_of (by omega), nth_of (by omega)]
    subst hys
    rw [List.getElem_take, List.getElem_drop]
  have yb : Bd 1000000000 ys := fun x hx => by
    subst hys
    have := hL.2.1 x (List.mem_of_mem_drop (List.mem_of_mem_take hx)); omega
  have ml : (ys.map (- ·)).length = ys.length := List.length_map _
  obtain ⟨⟨j1, j0, q1⟩, r1⟩ := gmT_is ys (ys.length - 1)
  obtain ⟨⟨j2, j3, q2⟩, r2⟩ := gmT_is (ys.map (- ·)) ((ys.map (- ·)).length - 1)
  have mneg : ∀ j, j < ys.length → nth (ys.map (- ·)) j = - nth ys j := fun j hj => by
    rw [nth_of (by omega), nth_of hj, List.getElem_map]
  have hin := hL.mean_in (i := I) (e := K + 1) (by omega) (by omega) (a := - gmL (ys.map (- ·))) (b := gmL ys) fun j g1 g2 => by
    have a1 := r1 (j - I) (by omega)
    have a2 := r2 (j - I) (by omega)
    rw [mneg _ (by omega), yn _ (by omega), show I + (j - I) = j by omega] at a2
    rw [yn _ (by omega), show I + (j - I) = j by omega] at a1
    unfold gmL
    constructor
    · omega
    · exact a1
  have b1 : -30 ≤ gmL ys ∧ gmL ys ≤ 30 := by
    have := hL.x (I + j1)
    rw [yn _ (by omega)] at q1
    unfold gmL; omega
  have b2 : -30 ≤ gmL (ys.map (- ·)) ∧ gmL (ys.map (- ·)) ≤ 30 := by
    have := hL.x (I + j2)
    rw [mneg _ (by omega), yn _ (by omega)] at q2
    unfold gmL; omega
  have fd := hL.fd (i := I) (e := K + 1) (by omega) (by omega)
  have hp := hL.pos (i := I) (e := K + 1) (by omega) (by omega)
  have t1 : FitA ((gmL ys : Int) : Rat) (mnR xs ws I (K + 1)) := fitA_of (FD.int b1) fd (by omega) (by omega) (by omega)
  have t2 : FitA (mnR xs ws I (K + 1)) ((- gmL (ys.map (- ·)) : Int) : Rat) := fitA_of fd (FD.int (B := 30) (by omega)) (by omega) (by omega) (by omega)
  have n1 : ¬ ((gmL ys : Int) : Rat) < mnR xs ws I (K + 1) := Rat.not_lt.2 hin.2
  have n2 : ¬ mnR xs ws I (K + 1) < ((- gmL (ys.map (- ·)) : Int) : Rat) := Rat.not_lt.2 hin.1
  have hx := hL.x I
  simp only [gN, gD, eI, eK]
  (repeat (first | refine gst (hk := ?_) | (show GO _ _ _ _ _ (⟨some _, none, .call _ _⟩ :: _) _; first | (refine go_callg rfl code_spec_DrawMeanOf.callable (fun H hH => drawMeanOf_ok hH (by exact Has.auto) (by assumption) (by omega)) ?_; intro g hg) | (refine go_callp rfl code_impl_MeanOf.callable (fun H hH => implMeanOf_t (hH.ints (by exact Has.auto)) (hH.ints (by exact Has.auto)) (by omega) (by omega)) ?_) | (refine go_callp rfl code_spec_MeanOf.callable (fun H hH => specMeanOf_t (hH.ints (by exact Has.auto)) (hH.ints (by exact Has.auto)) (by omega) (by omega)) ?_) | (refine go_callp rfl code_laws_greatest.callable (fun H hH => greatest_ok (hH.ints (by exact Has.auto)) (by omega) (by omega)) ?_) | (refine go_calln rfl code_laws_negated.callable (fun H hH => negated_ok (hH.ints (by exact Has.auto)) (by omega) (by assumption)) ?_; intro u)) | (refine go_is rfl (stp_ageqS rfl rfl) ?_) | (refine go_is rfl (stp_agneS rfl rfl) ?_) | (show GO _ _ _ _ _ (⟨some _, none, _⟩ :: _) _; first | refine go_op (hk := ?_) | (refine go_nw (hk := ?_); intro u; try simp only [llc, lln, lna, lza]) | (refine go_np (hk := ?_); intro id)) | (show GO _ _ _ _ _ (⟨none, none, _⟩ :: _) _; refine go_st (hk := ?_)) | (show GO _ _ _ _ _ (⟨_, some _, _⟩ :: _) _; first | refine go_in (hk := ?_) | refine go_out (hk := ?_) | refine go_void (hk := ?_)) | (show GK _ _ _ _ (blockK _ _ _); refine gk_past rfl ?_) | (show GC _ _ _ _ _ (.cond _ _ _) _; first | refine gc_yes (h1 := ?_) | refine gc_no (h1 := ?_))))
  refine go_freeze (v := gu) (by exact Sel.auto) ?_
  refine go_new rfl (stp_slI (l := I) (h := K + 1) rfl (by exact Sel.auto) (.inr ⟨_, rfl, rfl⟩) (.inr ⟨_, rfl, rfl⟩) ⟨by omega, by omega⟩) ?_
  intro u11
  rw [← hys]
  (repeat (first | refine gst (hk := ?_) | (show GO _ _ _ _ _ (⟨some _, none, .call _ _⟩ :: _) _; first | (refine go_callg rfl code_spec_DrawMeanOf.callable (fun H hH => drawMeanOf_ok hH (by exact Has.auto) (by assumption) (by omega)) ?_; intro g hg) | (refine go_callp rfl code_impl_MeanOf.callable (fun H hH => implMeanOf_t (hH.ints (by exact Has.auto)) (hH.ints (by exact Has.auto)) (by omega) (by omega)) ?_) | (refine go_callp rfl code_spec_MeanOf.callable (fun H hH => specMeanOf_t (hH.ints (by exact Has.auto)) (hH.ints (by exact Has.auto)) (by omega) (by omega)) ?_) | (refine go_callp rfl code_laws_greatest.callable (fun H hH => greatest_ok (hH.ints (by exact Has.auto)) (by omega) (by omega)) ?_) | (refine go_calln rfl code_laws_negated.callable (fun H hH => negated_ok (hH.ints (by exact Has.auto)) (by omega) (by assumption)) ?_; intro u)) | (refine go_is rfl (stp_ageqS rfl rfl) ?_) | (refine go_is rfl (stp_agneS rfl rfl) ?_) | (show GO _ _ _ _ _ (⟨some _, none, _⟩ :: _) _; first | refine go_op (hk := ?_) | (refine go_nw (hk := ?_); intro u; try simp only [llc, lln, lna, lza]) | (refine go_np (hk := ?_); intro id)) | (show GO _ _ _ _ _ (⟨none, none, _⟩ :: _) _; refine go_st (hk := ?_)) | (show GO _ _ _ _ _ (⟨_, some _, _⟩ :: _) _; first | refine go_in (hk := ?_) | refine go_out (hk := ?_) | refine go_void (hk := ?_)) | (show GK _ _ _ _ (blockK _ _ _); refine gk_past rfl ?_) | (show GC _ _ _ _ _ (.cond _ _ _) _; first | refine gc_yes (h1 := ?_) | refine gc_no (h1 := ?_))))
  revert id; intro i9
  revert id; intro i7
  refine gc_keep [(3, gu), (5, .int .i64 (I : Int)), (6, .int .i64 (K : Int)), (7, .ptr i7 0), (11, u11)] [celF i7 (mnR xs ws I (K + 1)), .roI u11 (K + 1 - I) ys, .roI gu xs.length xs] (by (repeat (refine Cov.cons (by exact rfl) ?_)); exact Cov.nil) (by exact Sub.auto) ?_
  refine gc_dra_cut (γ := Unit) (fun _ => [(2, .bool true)]) (fun _ => []) ?_ (fun _ => ?_)
  · refine gc_dra ?_ (gc_dra ?_ (gc_dra ?_ (gc_dra ?_ (gc_dra ?_ (gc_dra ?_ (gc_dra ?_ (gc_dra ?_ (gc_dra ?_ (gc_dra ?_ (gc_dra ?_ (gc_dra ?_ (gc_dra ?_ (gc_dra ?_ (gc_dra ?_ (gc_dra ?_ (gc_dra ?_ (gc_dra ?_ (gc_dra ?_ (gc_dra ?_ (gc_dra ?_ (gc_dra ?_ (gc_dra ?_ (gc_dra ?_ (gc_dra ?_ (gc_dra ?_ (gc_dra ?_ (gc_dra ?_ (gc_dra ?_ (gc_dra ?_ (gc_dra ?_ (gc_dra ?_ (gc_dra ?_ (gc_dra ?_ (gc_dra ?_ (gc_dra1 ?_)))))))))))))))))))))))))))))))))))
    all_goals
      (repeat (first | refine gst (hk := ?_) | (show GO _ _ _ _ _ (⟨some _, none, .call _ _⟩ :: _) _; first | (refine go_callg rfl code_spec_DrawMeanOf.callable (fun H hH => drawMeanOf_ok hH (by exact Has.auto) (by assumption) (by omega)) ?_; intro g hg) | (refine go_callp rfl code_impl_MeanOf.callable (fun H hH => implMeanOf_t (hH.ints (by exact Has.auto)) (hH.ints (by exact Has.auto)) (by omega) (by omega)) ?_) | (refine go_callp rfl code_spec_MeanOf.callable (fun H hH => specMeanOf_t (hH.ints (by exact Has.auto)) (hH.ints (by exact Has.auto)) (by omega) (by omega)) ?_) | (refine go_callp rfl code_laws_greatest.callable (fun H hH => greatest_ok (hH.ints (by exact Has.auto)) (by omega) (by omega)) ?_) | (refine go_calln rfl code_laws_negated.callable (fun H hH => negated_ok (hH.ints (by exact Has.auto)) (by omega) (by assumption)) ?_; intro u)) | (refine go_is rfl (stp_ageqS rfl rfl) ?_) | (refine go_is rfl (stp_agneS rfl rfl) ?_) | (show GO _ _ _ _ _ (⟨some _, none, _⟩ :: _) _; first | refine go_op (hk := ?_) | (refine go_nw (hk := ?_); intro u; try simp only [llc, lln, lna, lza]) | (refine go_np (hk := ?_); intro id)) | (show GO _ _ _ _ _ (⟨none, none, _⟩ :: _) _; refine go_st (hk := ?_)) | (show GO _ _ _ _ _ (⟨_, some _, _⟩ :: _) _; first | refine go_in (hk := ?_) | refine go_out (hk := ?_) | refine go_void (hk := ?_)) | (show GK _ _ _ _ (blockK _ _ _); refine gk_past rfl ?_) | (show GC _ _ _ _ _ (.cond _ _ _) _; first | refine gc_yes (h1 := ?_) | refine gc_no (h1 := ?_))))
      refine go_callp rfl code_laws_fracOf.callable (fun H hH => lawFrac_ok (a := gmL ys) (b := 1) (by omega) (by omega) (by omega)) ?_
      rw [rat_one]
      (repeat (first | refine gst (hk := ?_) | (show GO _ _ _ _ _ (⟨some _, none, .call _ _⟩ :: _) _; first | (refine go_callg rfl code_spec_DrawMeanOf.callable (fun H hH => drawMeanOf_ok hH (by exact Has.auto) (by assumption) (by omega)) ?_; intro g hg) | (refine go_callp rfl code_impl_MeanOf.callable (fun H hH => implMeanOf_t (hH.ints (by exact Has.auto)) (hH.ints (by exact Has.auto)) (by omega) (by omega)) ?_) | (refine go_callp rfl code_spec_MeanOf.callable (fun H hH => specMeanOf_t (hH.ints (by exact Has.auto)) (hH.ints (by exact Has.auto)) (by omega) (by omega)) ?_) | (refine go_callp rfl code_laws_greatest.callable (fun H hH => greatest_ok (hH.ints (by exact Has.auto)) (by omega) (by omega)) ?_) | (refine go_calln rfl code_laws_negated.callable (fun H hH => negated_ok (hH.ints (by exact Has.auto)) (by omega) (by assumption)) ?_; intro u)) | (refine go_is rfl (stp_ageqS rfl rfl) ?_) | (refine go_is rfl (stp_agneS rfl rfl) ?_) | (show GO _ _ _ _ _ (⟨some _, none, _⟩ :: _) _; first | refine go_op (hk := ?_) | (refine go_nw (hk := ?_); intro u; try simp only [llc, lln, lna, lza]) | (refine go_np (hk := ?_); intro id)) | (show GO _ _ _ _ _ (⟨none, none, _⟩ :: _) _; refine go_st (hk := ?_)) | (show GO _ _ _ _ _ (⟨_, some _, _⟩ :: _) _; first | refine go_in (hk := ?_) | refine go_out (hk := ?_) | refine go_void (hk := ?_)) | (show GK _ _ _ _ (blockK _ _ _); refine gk_past rfl ?_) | (show GC _ _ _ _ _ (.cond _ _ _) _; first | refine gc_yes (h1 := ?_) | refine gc_no (h1 := ?_))))
      refine go_callp rfl code_laws_lessOf.callable (fun H hH => lawLess_ok (p := ((gmL ys : Int) : Rat)) (q := mnR xs ws I (K + 1)) t1) ?_
      (repeat (first | refine gst (hk := ?_) | (show GO _ _ _ _ _ (⟨some _, none, .call _ _⟩ :: _) _; first | (refine go_callg rfl code_spec_DrawMeanOf.callable (fun H hH => drawMeanOf_ok hH (by exact Has.auto) (by assumption) (by omega)) ?_; intro g hg) | (refine go_callp rfl code_impl_MeanOf.callable (fun H hH => implMeanOf_t (hH.ints (by exact Has.auto)) (hH.ints (by exact Has.auto)) (by omega) (by omega)) ?_) | (refine go_callp rfl code_spec_MeanOf.callable (fun H hH => specMeanOf_t (hH.ints (by exact Has.auto)) (hH.ints (by exact Has.auto)) (by omega) (by omega)) ?_) | (refine go_callp rfl code_laws_greatest.callable (fun H hH => greatest_ok (hH.ints (by exact Has.auto)) (by omega) (by omega)) ?_) | (refine go_calln rfl code_laws_negated.callable (fun H hH => negated_ok (hH.ints (by exact Has.auto)) (by omega) (by assumption)) ?_; intro u)) | (refine go_is rfl (stp_ageqS rfl rfl) ?_) | (refine go_is rfl (stp_agneS rfl rfl) ?_) | (show GO _ _ _ _ _ (⟨some _, none, _⟩ :: _) _; first | refine go_op (hk := ?_) | (refine go_nw (hk := ?_); intro u; try simp only [llc, lln, lna, lza]) | (refine go_np (hk := ?_); intro id)) | (show GO _ _ _ _ _ (⟨none, none, _⟩ :: _) _; refine go_st (hk := ?_)) | (show GO _ _ _ _ _ (⟨_, some _, _⟩ :: _) _; first | refine go_in (hk := ?_) | refine go_out (hk := ?_) | refine go_void (hk := ?_)) | (show GK _ _ _ _ (blockK _ _ _); refine gk_past rfl ?_) | (show GC _ _ _ _ _ (.cond _ _ _) _; first | refine gc_yes (h1 := ?_) | refine gc_no (h1 := ?_))))
      refine go_split 69 rfl (fun _ => ?_) (fun hc => absurd n1 hc)
      (repeat (first | refine gst (hk := ?_) | (show GO _ _ _ _ _ (⟨some _, none, .call _ _⟩ :: _) _; first | (refine go_callg rfl code_spec_DrawMeanOf.callable (fun H hH => drawMeanOf_ok hH (by exact Has.auto) (by assumption) (by omega)) ?_; intro g hg) | (refine go_callp rfl code_impl_MeanOf.callable (fun H hH => implMeanOf_t (hH.ints (by exact Has.auto)) (hH.ints (by exact Has.auto)) (by omega) (by omega)) ?_) | (refine go_callp rfl code_spec_MeanOf.callable (fun H hH => specMeanOf_t (hH.ints (by exact Has.auto)) (hH.ints (by exact Has.auto)) (by omega) (by omega)) ?_) | (refine go_callp rfl code_laws_greatest.callable (fun H hH => greatest_ok (hH.ints (by exact Has.auto)) (by omega) (by omega)) ?_) | (refine go_calln rfl code_laws_negated.callable (fun H hH => negated_ok (hH.ints (by exact Has.auto)) (by omega) (by assumption)) ?_; intro u)) | (refine go_is rfl (stp_ageqS rfl rfl) ?_) | (refine go_is rfl (stp_agneS rfl rfl) ?_) | (show GO _ _ _ _ _ (⟨some _, none, _⟩ :: _) _; first | refine go_op (hk := ?_) | (refine go_nw (hk := ?_); intro u; try simp only [llc, lln, lna, lza]) | (refine go_np (hk := ?_); intro id)) | (show GO _ _ _ _ _ (⟨none, none, _⟩ :: _) _; refine go_st (hk := ?_)) | (show GO _ _ _ _ _ (⟨_, some _, _⟩ :: _) _; first | refine go_in (hk := ?_) | refine go_out (hk := ?_) | refine go_void (hk := ?_)) | (show GK _ _ _ _ (blockK _ _ _); refine gk_past rfl ?_) | (show GC _ _ _ _ _ (.cond _ _ _) _; first | refine gc_yes (h1 := ?_) | refine gc_no (h1 := ?_))))
      refine go_callp rfl code_laws_fracOf.callable (fun H hH => lawFrac_ok (a := - gmL (ys.map (- ·))) (b := 1) (by omega) (by omega) (by omega)) ?_
      rw [rat_one]
      (repeat (first | refine gst (hk := ?_) | (show GO _ _ _ _ _ (⟨some _, none, .call _ _⟩ :: _) _; first | (refine go_callg rfl code_spec_DrawMeanOf.callable (fun H hH => drawMeanOf_ok hH (by exact Has.auto) (by assumption) (by omega)) ?_; intro g hg) | (refine go_callp rfl code_impl_MeanOf.callable (fun H hH => implMeanOf_t (hH.ints (by exact Has.auto)) (hH.ints (by exact Has.auto)) (by omega) (by omega)) ?_) | (refine go_callp rfl code_spec_MeanOf.callable (fun H hH => specMeanOf_t (hH.ints (by exact Has.auto)) (hH.ints (by exact Has.auto)) (by omega) (by omega)) ?_) | (refine go_callp rfl code_laws_greatest.callable (fun H hH => greatest_ok (hH.ints (by exact Has.auto)) (by omega) (by omega)) ?_) | (refine go_calln rfl code_laws_negated.callable (fun H hH => negated_ok (hH.ints (by exact Has.auto)) (by omega) (by assumption)) ?_; intro u)) | (refine go_is rfl (stp_ageqS rfl rfl) ?_) | (refine go_is rfl (stp_agneS rfl rfl) ?_) | (show GO _ _ _ _ _ (⟨some _, none, _⟩ :: _) _; first | refine go_op (hk := ?_) | (refine go_nw (hk := ?_); intro u; try simp only [llc, lln, lna, lza]) | (refine go_np (hk := ?_); intro id)) | (show GO _ _ _ _ _ (⟨none, none, _⟩ :: _) _; refine go_st (hk := ?_)) | (show GO _ _ _ _ _ (⟨_, some _, _⟩ :: _) _; first | refine go_in (hk := ?_) | refine go_out (hk := ?_) | refine go_void (hk := ?_)) | (show GK _ _ _ _ (blockK _ _ _); refine gk_past rfl ?_) | (show GC _ _ _ _ _ (.cond _ _ _) _; first | refine gc_yes (h1 := ?_) | refine gc_no (h1 := ?_))))
      refine go_callp rfl code_laws_lessOf.callable (fun H hH => lawLess_ok (p := mnR xs ws I (K + 1)) (q := ((- gmL (ys.map (- ·)) : Int) : Rat)) t2) ?_
      (repeat (first | refine gst (hk := ?_) | (show GO _ _ _ _ _ (⟨some _, none, .call _ _⟩ :: _) _; first | (refine go_callg rfl code_spec_DrawMeanOf.callable (fun H hH => drawMeanOf_ok hH (by exact Has.auto) (by assumption) (by omega)) ?_; intro g hg) | (refine go_callp rfl code_impl_MeanOf.callable (fun H hH => implMeanOf_t (hH.ints (by exact Has.auto)) (hH.ints (by exact Has.auto)) (by omega) (by omega)) ?_) | (refine go_callp rfl code_spec_MeanOf.callable (fun H hH => specMeanOf_t (hH.ints (by exact Has.auto)) (hH.ints (by exact Has.auto)) (by omega) (by omega)) ?_) | (refine go_callp rfl code_laws_greatest.callable (fun H hH => greatest_ok (hH.ints (by exact Has.auto)) (by omega) (by omega)) ?_) | (refine go_calln rfl code_laws_negated.callable (fun H hH => negated_ok (hH.ints (by exact Has.auto)) (by omega) (by assumption)) ?_; intro u)) | (refine go_is rfl (stp_ageqS rfl rfl) ?_) | (refine go_is rfl (stp_agneS rfl rfl) ?_) | (show GO _ _ _ _ _ (⟨some _, none, _⟩ :: _) _; first | refine go_op (hk := ?_) | (refine go_nw (hk := ?_); intro u; try simp only [llc, lln, lna, lza]) | (refine go_np (hk := ?_); intro id)) | (show GO _ _ _ _ _ (⟨none, none, _⟩ :: _) _; refine go_st (hk := ?_)) | (show GO _ _ _ _ _ (⟨_, some _, _⟩ :: _) _; first | refine go_in (hk := ?_) | refine go_out (hk := ?_) | refine go_void (hk := ?_)) | (show GK _ _ _ _ (blockK _ _ _); refine gk_past rfl ?_) | (show GC _ _ _ _ _ (.cond _ _ _) _; first | refine gc_yes (h1 := ?_) | refine gc_no (h1 := ?_))))
      refine go_split 79 rfl (fun _ => ?_) (fun hc => absurd n2 hc)
      (repeat (first | refine gst (hk := ?_) | (show GO _ _ _ _ _ (⟨some _, none, .call _ _⟩ :: _) _; first | (refine go_callg rfl code_spec_DrawMeanOf.callable (fun H hH => drawMeanOf_ok hH (by exact Has.auto) (by assumption) (by omega)) ?_; intro g hg) | (refine go_callp rfl code_impl_MeanOf.callable (fun H hH => implMeanOf_t (hH.ints (by exact Has.auto)) (hH.ints (by exact Has.auto)) (by omega) (by omega)) ?_) | (refine go_callp rfl code_spec_MeanOf.callable (fun H hH => specMeanOf_t (hH.ints (by exact Has.auto)) (hH.ints (by exact Has.auto)) (by omega) (by omega)) ?_) | (refine go_callp rfl code_laws_greatest.callable (fun H hH => greatest_ok (hH.ints (by exact Has.auto)) (by omega) (by omega)) ?_) | (refine go_calln rfl code_laws_negated.callable (fun H hH => negated_ok (hH.ints (by exact Has.auto)) (by omega) (by assumption)) ?_; intro u)) | (refine go_is rfl (stp_ageqS rfl rfl) ?_) | (refine go_is rfl (stp_agneS rfl rfl) ?_) | (show GO _ _ _ _ _ (⟨some _, none, _⟩ :: _) _; first | refine go_op (hk := ?_) | (refine go_nw (hk := ?_); intro u; try simp only [llc, lln, lna, lza]) | (refine go_np (hk := ?_); intro id)) | (show GO _ _ _ _ _ (⟨none, none, _⟩ :: _) _; refine go_st (hk := ?_)) | (show GO _ _ _ _ _ (⟨_, some _, _⟩ :: _) _; first | refine go_in (hk := ?_) | refine go_out (hk := ?_) | refine go_void (hk := ?_)) | (show GK _ _ _ _ (blockK _ _ _); refine gk_past rfl ?_) | (show GC _ _ _ _ _ (.cond _ _ _) _; first | refine gc_yes (h1 := ?_) | refine gc_no (h1 := ?_))))
      refine go_split 83 rfl (fun _ => ?_) (fun h4 => ?_)
      · (repeat (first | refine gst (hk := ?_) | (show GO _ _ _ _ _ (⟨some _, none, .call _ _⟩ :: _) _; first | (refine go_callg rfl code_spec_DrawMeanOf.callable (fun H hH => drawMeanOf_ok hH (by exact Has.auto) (by assumption) (by omega)) ?_; intro g hg) | (refine go_callp rfl code_impl_MeanOf.callable (fun H hH => implMeanOf_t (hH.ints (by exact Has.auto)) (hH.ints (by exact Has.auto)) (by omega) (by omega)) ?_) | (refine go_callp rfl code_spec_MeanOf.callable (fun H hH => specMeanOf_t (hH.ints (by exact Has.auto)) (hH.ints (by exact Has.auto)) (by omega) (by omega)) ?_) | (refine go_callp rfl code_laws_greatest.callable (fun H hH => greatest_ok (hH.ints (by exact Has.auto)) (by omega) (by omega)) ?_) | (refine go_calln rfl code_laws_negated.callable (fun H hH => negated_ok (hH.ints (by exact Has.auto)) (by omega) (by assumption)) ?_; intro u)) | (refine go_is rfl (stp_ageqS rfl rfl) ?_) | (refine go_is rfl (stp_agneS rfl rfl) ?_) | (show GO _ _ _ _ _ (⟨some _, none, _⟩ :: _) _; first | refine go_op (hk := ?_) | (refine go_nw (hk := ?_); intro u; try simp only [llc, lln, lna, lza]) | (refine go_np (hk := ?_); intro id)) | (show GO _ _ _ _ _ (⟨none, none, _⟩ :: _) _; refine go_st (hk := ?_)) | (show GO _ _ _ _ _ (⟨_, some _, _⟩ :: _) _; first | refine go_in (hk := ?_) | refine go_out (hk := ?_) | refine go_void (hk := ?_)) | (show GK _ _ _ _ (blockK _ _ _); refine gk_past rfl ?_) | (show GC _ _ _ _ _ (.cond _ _ _) _; first | refine gc_yes (h1 := ?_) | refine gc_no (h1 := ?_))))
        exact gk_cut () (by (repeat (refine Cov.cons (by exact rfl) ?_)); exact Cov.nil) .nil
      · have hIK : K = I := by omega
        have hm1 : mnR xs ws I (K + 1) = ((nth xs I : Int) : Rat) := by rw [hIK]; exact hL.mean_one (by omega)
        (repeat (first | refine gst (hk := ?_) | (show GO _ _ _ _ _ (⟨some _, none, .call _ _⟩ :: _) _; first | (refine go_callg rfl code_spec_DrawMeanOf.callable (fun H hH => drawMeanOf_ok hH (by exact Has.auto) (by assumption) (by omega)) ?_; intro g hg) | (refine go_callp rfl code_impl_MeanOf.callable (fun H hH => implMeanOf_t (hH.ints (by exact Has.auto)) (hH.ints (by exact Has.auto)) (by omega) (by omega)) ?_) | (refine go_callp rfl code_spec_MeanOf.callable (fun H hH => specMeanOf_t (hH.ints (by exact Has.auto)) (hH.ints (by exact Has.auto)) (by omega) (by omega)) ?_) | (refine go_callp rfl code_laws_greatest.callable (fun H hH => greatest_ok (hH.ints (by exact Has.auto)) (by omega) (by omega)) ?_) | (refine go_calln rfl code_laws_negated.callable (fun H hH => negated_ok (hH.ints (by exact Has.auto)) (by omega) (by assumption)) ?_; intro u)) | (refine go_is rfl (stp_ageqS rfl rfl) ?_) | (refine go_is rfl (stp_agneS rfl rfl) ?_) | (show GO _ _ _ _ _ (⟨some _, none, _⟩ :: _) _; first | refine go_op (hk := ?_) | (refine go_nw (hk := ?_); intro u; try simp only [llc, lln, lna, lza]) | (refine go_np (hk := ?_); intro id)) | (show GO _ _ _ _ _ (⟨none, none, _⟩ :: _) _; refine go_st (hk := ?_)) | (show GO _ _ _ _ _ (⟨_, some _, _⟩ :: _) _; first | refine go_in (hk := ?_) | refine go_out (hk := ?_) | refine go_void (hk := ?_)) | (show GK _ _ _ _ (blockK _ _ _); refine gk_past rfl ?_) | (show GC _ _ _ _ _ (.cond _ _ _) _; first | refine gc_yes (h1 := ?_) | refine gc_no (h1 := ?_))))
        refine go_callp rfl code_laws_fracOf.callable (fun H hH => lawFrac_ok (a := nth xs I) (b := 1) (by omega) (by omega) (by omega)) ?_
        rw [rat_one, hm1]
        (repeat (first | refine gst (hk := ?_) | (show GO _ _ _ _ _ (⟨some _, none, .call _ _⟩ :: _) _; first | (refine go_callg rfl code_spec_DrawMeanOf.callable (fun H hH => drawMeanOf_ok hH (by exact Has.auto) (by assumption) (by omega)) ?_; intro g hg) | (refine go_callp rfl code_impl_MeanOf.callable (fun H hH => implMeanOf_t (hH.ints (by exact Has.auto)) (hH.ints (by exact Has.auto)) (by omega) (by omega)) ?_) | (refine go_callp rfl code_spec_MeanOf.callable (fun H hH => specMeanOf_t (hH.ints (by exact Has.auto)) (hH.ints (by exact Has.auto)) (by omega) (by omega)) ?_) | (refine go_callp rfl code_laws_greatest.callable (fun H hH => greatest_ok (hH.ints (by exact Has.auto)) (by omega) (by omega)) ?_) | (refine go_calln rfl code_laws_negated.callable (fun H hH => negated_ok (hH.ints (by exact Has.auto)) (by omega) (by assumption)) ?_; intro u)) | (refine go_is rfl (stp_ageqS rfl rfl) ?_) | (refine go_is rfl (stp_agneS rfl rfl) ?_) | (show GO _ _ _ _ _ (⟨some _, none, _⟩ :: _) _; first | refine go_op (hk := ?_) | (refine go_nw (hk := ?_); intro u; try simp only [llc, lln, lna, lza]) | (refine go_np (hk := ?_); intro id)) | (show GO _ _ _ _ _ (⟨none, none, _⟩ :: _) _; refine go_st (hk := ?_)) | (show GO _ _ _ _ _ (⟨_, some _, _⟩ :: _) _; first | refine go_in (hk := ?_) | refine go_out (hk := ?_) | refine go_void (hk := ?_)) | (show GK _ _ _ _ (blockK _ _ _); refine gk_past rfl ?_) | (show GC _ _ _ _ _ (.cond _ _ _) _; first | refine gc_yes (h1 := ?_) | refine gc_no (h1 := ?_))))
        exact gk_cut () (by (repeat (refine Cov.cons (by exact rfl) ?_)); exact Cov.nil) .nil
  (repeat (first | refine gst (hk := ?_) | (show GO _ _ _ _ _ (⟨some _, none, .call _ _⟩ :: _) _; first | (refine go_callg rfl code_spec_DrawMeanOf.callable (fun H hH => drawMeanOf_ok hH (by exact Has.auto) (by assumption) (by omega)) ?_; intro g hg) | (refine go_callp rfl code_impl_MeanOf.callable (fun H hH => implMeanOf_t (hH.ints (by exact Has.auto)) (hH.ints (by exact Has.auto)) (by omega) (by omega)) ?_) | (refine go_callp rfl code_spec_MeanOf.callable (fun H hH => specMeanOf_t (hH.ints (by exact Has.auto)) (hH.ints (by exact Has.auto)) (by omega) (by omega)) ?_) | (refine go_callp rfl code_laws_greatest.callable (fun H hH => greatest_ok (hH.ints (by exact Has.auto)) (by omega) (by omega)) ?_) | (refine go_calln rfl code_laws_negated.callable (fun H hH => negated_ok (hH.ints (by exact Has.auto)) (by omega) (by assumption)) ?_; intro u)) | (refine go_is rfl (stp_ageqS rfl rfl) ?_) | (refine go_is rfl (stp_agneS rfl rfl) ?_) | (show GO _ _ _ _ _ (⟨some _, none, _⟩ :: _) _; first | refine go_op (hk := ?_) | (refine go_nw (hk := ?_); intro u; try simp only [llc, lln, lna, lza]) | (refine go_np (hk := ?_); intro id)) | (show GO _ _ _ _ _ (⟨none, none, _⟩ :: _) _; refine go_st (hk := ?_)) | (show GO _ _ _ _ _ (⟨_, some _, _⟩ :: _) _; first | refine go_in (hk := ?_) | refine go_out (hk := ?_) | refine go_void (hk := ?_)) | (show GK _ _ _ _ (blockK _ _ _); refine gk_past rfl ?_) | (show GC _ _ _ _ _ (.cond _ _ _) _; first | refine gc_yes (h1 := ?_) | refine gc_no (h1 := ?_))))
  exact gk_ret rfl fun H' hH => rfl

structure Cst {α : Type} (op : α → α → α) (le : α → α → Prop) : Prop where
  assoc : ∀ a b c, op (op a b) c = op a (op b c)
  comm : ∀ a b, op a b = op b a
  mono : ∀ {a b} c, le a b → le (op a c) (op b c)
  refl : ∀ a, le a a
  trans : ∀ {a b c}, le a b → le b c → le a c
  anti : ∀ {a b}, le a b → le b a → a = b

inductive Cuts {α : Type} (op : α → α → α) (c : Nat → Nat → α) : Nat → Nat → Nat → α → Prop
  | one {i k : Nat} (h : i < k) : Cuts op c 1 i k (c i k)
  | snoc {p i m k : Nat} {v : α} (h : Cuts op c p i m v) (hk : m < k) : Cuts op c (p + 1) i k (op v (c m k))

theorem Cuts.lt {α : Type} {op : α → α → α} {c : Nat → Nat → α} {p i k : Nat} {v : α} (h : Cuts op c p i k v) : i < k ∧ 1 ≤ p ∧ i + p ≤ k := by
  induction h with
  | one h => omega
  | snoc h hk ih => omega

theorem Cuts.cons {α : Type} {op : α → α → α} {le : α → α → Prop} (hc : Cst op le) {c : Nat → Nat → α} {p i m k : Nat} {v : α} (hi : i < m) (h : Cuts op c p m k v) : Cuts op c (p + 1) i k (op (c i m) v) := by
  induction h with
  | one h => exact .snoc (.one hi) h
  | snoc h hk ih => rw [← hc.assoc]; exact .snoc (ih hi) hk

def LeastC {α : Type} (op : α → α → α) (le : α → α → Prop) (c : Nat → Nat → α) (P i k : Nat) (v : α) : Prop := (∃ q, q ≤ P ∧ Cuts op c q i k v) ∧ ∀ q w, q ≤ P → Cuts op c q i k w → le v w

theorem LeastC.pos {α : Type} {op : α → α → α} {le : α → α → Prop} {c : Nat → Nat → α} {P i k : Nat} {v : α} (h : LeastC op le c P i k v) : 1 ≤ P ∧ i < k := by
  obtain ⟨⟨q, h1, h2⟩, _⟩ := h
  have := h2.lt
  omega

theorem LeastC.congr {α : Type} {op : α → α → α} {le : α → α → Prop} {c d : Nat → Nat → α} {n P : Nat} (hd : ∀ i k, i < k → k ≤ n → d i k = c i k) {v : α} (h : LeastC op le d P 0 n v) : LeastC op le c P 0 n v := by
  have key : ∀ {c d : Nat → Nat → α}, (∀ i k, i < k → k ≤ n → d i k = c i k) → ∀ {p i k : Nat} {v : α}, Cuts op d p i k v → k ≤ n → Cuts op c p i k v := by
    intro c d hd p i k v h
    induction h with
    | one h => intro hk; rw [hd _ _ h hk]; exact .one h
    | snoc h hmk ih => intro hk; rw [hd _ _ hmk hk]; exact .snoc (ih (by omega)) hmk
  obtain ⟨⟨q, h1, h2⟩, h3⟩ := h
  exact ⟨⟨q, h1, key hd h2 (Nat.le_refl _)⟩, fun q w hq hw => h3 q w hq (key (fun i k h1 h2 => (hd i k h1 h2).symm) hw (Nat.le_refl _))⟩

theorem Steps.neg {xs : List Int} (h : Steps xs) : Steps (negL xs) := ⟨fun x hx => by
  unfold negL at hx
  obtain ⟨y, hy, rfl⟩ := List.mem_map.1 hx
  have := h.1 y hy
  omega, by rw [negL_length]; exact h.2.1, by rw [negL_length]; exact h.2.2⟩

def MpO (ob : Nat → Option OB) (id : Nat) (es : List ME) (clk : Nat) : Prop := ∃ o, ob id = some o ∧ o.mo = some (.map es clk)

def seo (ob : Nat → Option OB) (id : Nat) (o : OB) : Nat → Option OB := fun i => if i = id then some o else ob i

theorem mp_other {ob : Nat → Option OB} {id j : Nat} {es : List ME} {clk : Nat} {o : OB} (h : MpO ob j es clk) (hn : j ≠ id) : MpO (seo ob id o) j es clk := by
  obtain ⟨x, h1, h2⟩ := h
  exact ⟨x, by simp only [seo]; rw [if_neg hn]; exact h1, h2⟩

/-- what was there is there, but for some -/
def ExO (ob0 ob : Nat → Option OB) (I : List Nat) : Prop := ∀ j o, j ∉ I → ob0 j = some o → ob j = some o

theorem ExO.refl (ob : Nat → Option OB) (I : List Nat) : ExO ob ob I := fun _ _ _ h => h

theorem ExO.new {ob0 ob : Nat → Option OB} {I : List Nat} (h : ExO ob0 ob I) {id : Nat} (hn : ob id = none) (o : OB) : ExO ob0 (seo ob id o) I := fun j p h1 h2 => by
  have h3 := h j p h1 h2
  have : j ≠ id := by rintro rfl; rw [hn] at h3; cases h3
  simp only [seo]; rw [if_neg this]; exact h3

theorem ExO.mod {ob0 ob : Nat → Option OB} {I : List Nat} (h : ExO ob0 ob I) {id : Nat} (hn : ob0 id = none ∨ id ∈ I) (o : OB) : ExO ob0 (seo ob id o) I := fun j p h1 h2 => by
  have : j ≠ id := by
    rintro rfl
    rcases hn with hn | hn
    · rw [hn] at h2; cases h2
    · exact h1 hn
  simp only [seo]; rw [if_neg this]; exact h j p h1 h2

structure CE where
  p : Nat
  v : Rat
  b : Nat

def ceM (e : CE) : ME := ⟨.int .i64 (e.p : Int), frV e.v, e.b⟩

def CutsOk (L : List CE) (clk : Nat) : Prop := (L.map CE.b).Nodup ∧ (∀ e ∈ L, e.b < clk) ∧ (L.map CE.p).Nodup

theorem CutsOk.sub {L M : List CE} {clk : Nat} (h : CutsOk L clk) (hs : M.Sublist L) : CutsOk M clk := ⟨(hs.map _).nodup h.1, fun e he => h.2.1 e (hs.subset he), (hs.map _).nodup h.2.2⟩

/-- the stamps that have come -/
def GoneC (L : List CE) (seen : List Nat) : Prop := seen.Nodup ∧ ∀ b ∈ seen, b ∈ L.map CE.b

theorem GoneC.nil (L : List CE) : GoneC L [] := ⟨List.nodup_nil, by simp⟩

theorem GoneC.le {L : List CE} {seen : List Nat} (h : GoneC L seen) : seen.length ≤ L.length := by
  have := h.1.length_le_of_subset (fun b hb => h.2 b hb : seen ⊆ L.map CE.b)
  rwa [List.length_map] at this

theorem GoneC.snoc {L : List CE} {seen : List Nat} (h : GoneC L seen) {e : CE} (he : e ∈ L) (hn : e.b ∉ seen) : GoneC L (seen ++ [e.b]) := by
  refine ⟨?_, fun b hb => ?_⟩
  · rw [List.nodup_append]
    exact ⟨h.1, by simp, fun a ha b hb => by simp only [List.mem_singleton] at hb; subst hb; exact fun h => hn (h ▸ ha)⟩
  · rcases List.mem_append.1 hb with hb | hb
    · exact h.2 b hb
    · simp only [List.mem_singleton] at hb; subst hb; exact List.mem_map.2 ⟨e, he, rfl⟩

theorem GoneC.lt {L : List CE} {seen : List Nat} (h : GoneC L seen) {e : CE} (he : e ∈ L) (hn : e.b ∉ seen) : L.length - (seen ++ [e.b]).length < L.length - seen.length := by
  have := (h.snoc he hn).le
  rw [List.length_append, List.length_singleton] at this ⊢
  omega

/-- the ways that are not beaten, of some -/
def FrontC (L : List CE) (S : Nat → Rat → Prop) : Prop := (∀ e ∈ L, S e.p e.v) ∧ (∀ p v, S p v → ∃ e ∈ L, e.p ≤ p ∧ e.v ≤ v) ∧ ∀ e ∈ L, ∀ e' ∈ L, e.p < e'.p → e'.v < e.v

def SC (c : Nat → Nat → Rat) (i q : Nat) (v : Rat) : Prop := (i = 0 ∧ q = 0 ∧ v = 0) ∨ Cuts (· + ·) c q 0 i v

def GoodM (c : Nat → Nat → Rat) (ob : Nat → Option OB) (m i : Nat) : Prop := ∃ L clk, MpO ob m (L.map ceM) clk ∧ CutsOk L clk ∧ FrontC L (SC c i)

theorem GoodM.seo {c : Nat → Nat → Rat} {ob : Nat → Option OB} {m i id : Nat} {o : OB} (h : GoodM c ob m i) (hn : m ≠ id) : GoodM c (seo ob id o) m i := by
  obtain ⟨L, clk, h1, h2⟩ := h
  exact ⟨L, clk, mp_other h1 hn, h2⟩

def SmP (xs : List Int) (i d : Nat) : Prop := ∀ t, i ≤ t → t < i + d → nth xs t = nth xs i

noncomputable instance (xs : List Int) (i d : Nat) : Decidable (SmP xs i d) := Classical.propDecidable _

theorem SmP.succ {xs : List Int} {i d : Nat} : SmP xs i (d + 1) ↔ SmP xs i d ∧ nth xs (i + d) = nth xs i := by
  constructor
  · exact fun h => ⟨fun t h1 h2 => h t h1 (by omega), h (i + d) (by omega) (by omega)⟩
  · rintro ⟨h1, h2⟩ t h3 h4
    rcases Nat.lt_or_ge t (i + d) with h5 | h5
    · exact h1 t h3 h5
    · rw [show t = i + d by omega]; exact h2

end Go.Rx.Try
