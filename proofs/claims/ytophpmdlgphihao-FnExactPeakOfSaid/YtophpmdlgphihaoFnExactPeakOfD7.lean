import Derived.Test.YtophpmdlgphihaoFnExactPeakOfD6
namespace Go.Rx.Try
open Go.Proofs
set_option maxRecDepth 100000
set_option maxHeartbeats 8000000
set_option linter.unusedSimpArgs false
set_option linter.unusedVariables false

theorem leastP_ok {H : Heap} {w : AV} {g : Nat → Nat × Rat} {L : List (Nat × Rat)} (hw : Vals H w 3 L.length (pks L)) (hL : ∀ i, i < L.length → nthQ L i = g (i + 1)) (hl : L.length ≤ 1000000) (hf : ∀ i j, i ≤ L.length → j ≤ L.length → FitA (g i).2 (g j).2) :
    ACalls Try.prog fn_impl_least_impl_peak [pkV (g 0), w] H fun r H' => r = pkV (lfP g L.length) ∧ H' = H := by
  refine ACalls.val ?_ rfl
  refine code_impl_least_impl_peak.go [⟨.ro, w, 3, L.length, pks L⟩] ⟨⟨rfl, hw⟩, trivial⟩ (by simp) ?_
  unfold mc_impl_least_impl_peak
  (repeat (first | refine gst (hk := ?_) | (show GO _ _ _ _ _ (⟨some _, none, .inv _ _ _⟩ :: _) _; refine go_inv rfl rfl ?_) | (show GQ _ _ _ _ _ _ _ (⟨some _, none, .inv _ _ _⟩ :: _) _; refine gq_inv rfl rfl ?_) | (show GR _ _ _ _ _ _ (⟨some _, none, .inv _ _ _⟩ :: _) _; refine gr_inv rfl rfl ?_) | (show GO _ _ _ _ _ (⟨some _, none, _⟩ :: _) _; first | refine go_op (hk := ?_) | (refine go_nw (hk := ?_); intro u; try simp only [llc, lln, lna, lza]) | (refine go_np (hk := ?_); intro id)) | (show GO _ _ _ _ _ (⟨none, none, _⟩ :: _) _; refine go_st (hk := ?_)) | (show GO _ _ _ _ _ (⟨_, some _, _⟩ :: _) _; first | refine go_in (hk := ?_) | refine go_out (hk := ?_) | refine go_void (hk := ?_)) | (show GK _ _ _ _ (blockK _ _ _); refine gk_past rfl ?_) | (show GC _ _ _ _ _ (.cond _ _ _) _; first | refine gc_yes (h1 := ?_) | refine gc_no (h1 := ?_))))
  rename_i i2
  revert id; intro i4
  refine gc_up L.length (fun i => [(2, .ptr i2 0), (4, .ptr i4 0), (7, w), (8, .int .i64 (L.length : Int)), (9, .int .i64 (i : Int))]) (fun i => [celP i2 (lfP g i), ⟨.cell, .ptr i4 0, 3, 1, [.int .i64 0, .int .i64 0, .int .i64 0]⟩, ⟨.ro, w, 3, L.length, pks L⟩]) (hb := ?_)
  intro i hi I ν m hk
  (repeat (first | refine gst (hk := ?_) | (show GO _ _ _ _ _ (⟨some _, none, .inv _ _ _⟩ :: _) _; refine go_inv rfl rfl ?_) | (show GQ _ _ _ _ _ _ _ (⟨some _, none, .inv _ _ _⟩ :: _) _; refine gq_inv rfl rfl ?_) | (show GR _ _ _ _ _ _ (⟨some _, none, .inv _ _ _⟩ :: _) _; refine gr_inv rfl rfl ?_) | (show GO _ _ _ _ _ (⟨some _, none, _⟩ :: _) _; first | refine go_op (hk := ?_) | (refine go_nw (hk := ?_); intro u; try simp only [llc, lln, lna, lza]) | (refine go_np (hk := ?_); intro id)) | (show GO _ _ _ _ _ (⟨none, none, _⟩ :: _) _; refine go_st (hk := ?_)) | (show GO _ _ _ _ _ (⟨_, some _, _⟩ :: _) _; first | refine go_in (hk := ?_) | refine go_out (hk := ?_) | refine go_void (hk := ?_)) | (show GK _ _ _ _ (blockK _ _ _); refine gk_past rfl ?_) | (show GC _ _ _ _ _ (.cond _ _ _) _; first | refine gc_yes (h1 := ?_) | refine gc_no (h1 := ?_))))
  refine gc_cond rfl (fun h => ?_) (fun h => ?_)
  · have hk := hk (by omega)
    rw [lfP] at hk
    have hfit : FitA (g (i + 1)).2 (lfP g i).2 := by
      obtain ⟨j, hj, e⟩ := lfP_is g i
      rw [e]; exact hf _ _ (by omega) (by omega)
    (repeat (first | refine gst (hk := ?_) | (show GO _ _ _ _ _ (⟨some _, none, .inv _ _ _⟩ :: _) _; refine go_inv rfl rfl ?_) | (show GQ _ _ _ _ _ _ _ (⟨some _, none, .inv _ _ _⟩ :: _) _; refine gq_inv rfl rfl ?_) | (show GR _ _ _ _ _ _ (⟨some _, none, .inv _ _ _⟩ :: _) _; refine gr_inv rfl rfl ?_) | (show GO _ _ _ _ _ (⟨some _, none, _⟩ :: _) _; first | refine go_op (hk := ?_) | (refine go_nw (hk := ?_); intro u; try simp only [llc, lln, lna, lza]) | (refine go_np (hk := ?_); intro id)) | (show GO _ _ _ _ _ (⟨none, none, _⟩ :: _) _; refine go_st (hk := ?_)) | (show GO _ _ _ _ _ (⟨_, some _, _⟩ :: _) _; first | refine go_in (hk := ?_) | refine go_out (hk := ?_) | refine go_void (hk := ?_)) | (show GK _ _ _ _ (blockK _ _ _); refine gk_past rfl ?_) | (show GC _ _ _ _ _ (.cond _ _ _) _; first | refine gc_yes (h1 := ?_) | refine gc_no (h1 := ?_))))
    refine go_is rfl (stp_ldK cels_pk (0, 0) (i := i) rfl (by exact Has.auto) rfl (by omega)) ?_
    rw [show nthA (0, 0) L i = g (i + 1) from hL i (by omega)]
    generalize g (i + 1) = t1 at *
    generalize hst : lfP g i = t0 at *
    unfold celP pkC
    (repeat (first | refine gst (hk := ?_) | (show GO _ _ _ _ _ (⟨some _, none, .inv _ _ _⟩ :: _) _; refine go_inv rfl rfl ?_) | (show GQ _ _ _ _ _ _ _ (⟨some _, none, .inv _ _ _⟩ :: _) _; refine gq_inv rfl rfl ?_) | (show GR _ _ _ _ _ _ (⟨some _, none, .inv _ _ _⟩ :: _) _; refine gr_inv rfl rfl ?_) | (show GO _ _ _ _ _ (⟨some _, none, _⟩ :: _) _; first | refine go_op (hk := ?_) | (refine go_nw (hk := ?_); intro u; try simp only [llc, lln, lna, lza]) | (refine go_np (hk := ?_); intro id)) | (show GO _ _ _ _ _ (⟨none, none, _⟩ :: _) _; refine go_st (hk := ?_)) | (show GO _ _ _ _ _ (⟨_, some _, _⟩ :: _) _; first | refine go_in (hk := ?_) | refine go_out (hk := ?_) | refine go_void (hk := ?_)) | (show GK _ _ _ _ (blockK _ _ _); refine gk_past rfl ?_) | (show GC _ _ _ _ _ (.cond _ _ _) _; first | refine gc_yes (h1 := ?_) | refine gc_no (h1 := ?_))))
    refine go_callp rfl code_impl_peak_compare.callable (fun H hH => peakCompare_ok (s := t1) (t := t0) hfit) ?_
    (repeat (first | refine gst (hk := ?_) | (show GO _ _ _ _ _ (⟨some _, none, .inv _ _ _⟩ :: _) _; refine go_inv rfl rfl ?_) | (show GQ _ _ _ _ _ _ _ (⟨some _, none, .inv _ _ _⟩ :: _) _; refine gq_inv rfl rfl ?_) | (show GR _ _ _ _ _ _ (⟨some _, none, .inv _ _ _⟩ :: _) _; refine gr_inv rfl rfl ?_) | (show GO _ _ _ _ _ (⟨some _, none, _⟩ :: _) _; first | refine go_op (hk := ?_) | (refine go_nw (hk := ?_); intro u; try simp only [llc, lln, lna, lza]) | (refine go_np (hk := ?_); intro id)) | (show GO _ _ _ _ _ (⟨none, none, _⟩ :: _) _; refine go_st (hk := ?_)) | (show GO _ _ _ _ _ (⟨_, some _, _⟩ :: _) _; first | refine go_in (hk := ?_) | refine go_out (hk := ?_) | refine go_void (hk := ?_)) | (show GK _ _ _ _ (blockK _ _ _); refine gk_past rfl ?_) | (show GC _ _ _ _ _ (.cond _ _ _) _; first | refine gc_yes (h1 := ?_) | refine gc_no (h1 := ?_))))
    refine gc_cond rfl (fun h1 => ?_) (fun h1 => ?_)
    · rw [if_pos (cmR_neg.1 h1)] at hk
      (repeat (first | refine gst (hk := ?_) | (show GO _ _ _ _ _ (⟨some _, none, .inv _ _ _⟩ :: _) _; refine go_inv rfl rfl ?_) | (show GQ _ _ _ _ _ _ _ (⟨some _, none, .inv _ _ _⟩ :: _) _; refine gq_inv rfl rfl ?_) | (show GR _ _ _ _ _ _ (⟨some _, none, .inv _ _ _⟩ :: _) _; refine gr_inv rfl rfl ?_) | (show GO _ _ _ _ _ (⟨some _, none, _⟩ :: _) _; first | refine go_op (hk := ?_) | (refine go_nw (hk := ?_); intro u; try simp only [llc, lln, lna, lza]) | (refine go_np (hk := ?_); intro id)) | (show GO _ _ _ _ _ (⟨none, none, _⟩ :: _) _; refine go_st (hk := ?_)) | (show GO _ _ _ _ _ (⟨_, some _, _⟩ :: _) _; first | refine go_in (hk := ?_) | refine go_out (hk := ?_) | refine go_void (hk := ?_)) | (show GK _ _ _ _ (blockK _ _ _); refine gk_past rfl ?_) | (show GC _ _ _ _ _ (.cond _ _ _) _; first | refine gc_yes (h1 := ?_) | refine gc_no (h1 := ?_))))
      exact gk_next hk
    · rw [if_neg (fun h2 => h1 (cmR_neg.2 h2))] at hk
      (repeat (first | refine gst (hk := ?_) | (show GO _ _ _ _ _ (⟨some _, none, .inv _ _ _⟩ :: _) _; refine go_inv rfl rfl ?_) | (show GQ _ _ _ _ _ _ _ (⟨some _, none, .inv _ _ _⟩ :: _) _; refine gq_inv rfl rfl ?_) | (show GR _ _ _ _ _ _ (⟨some _, none, .inv _ _ _⟩ :: _) _; refine gr_inv rfl rfl ?_) | (show GO _ _ _ _ _ (⟨some _, none, _⟩ :: _) _; first | refine go_op (hk := ?_) | (refine go_nw (hk := ?_); intro u; try simp only [llc, lln, lna, lza]) | (refine go_np (hk := ?_); intro id)) | (show GO _ _ _ _ _ (⟨none, none, _⟩ :: _) _; refine go_st (hk := ?_)) | (show GO _ _ _ _ _ (⟨_, some _, _⟩ :: _) _; first | refine go_in (hk := ?_) | refine go_out (hk := ?_) | refine go_void (hk := ?_)) | (show GK _ _ _ _ (blockK _ _ _); refine gk_past rfl ?_) | (show GC _ _ _ _ _ (.cond _ _ _) _; first | refine gc_yes (h1 := ?_) | refine gc_no (h1 := ?_))))
      exact gk_next hk
  · have : i = L.length := by omega
    subst this
    generalize hst : lfP g L.length = t0 at *
    unfold celP pkC
    (repeat (first | refine gst (hk := ?_) | (show GO _ _ _ _ _ (⟨some _, none, .inv _ _ _⟩ :: _) _; refine go_inv rfl rfl ?_) | (show GQ _ _ _ _ _ _ _ (⟨some _, none, .inv _ _ _⟩ :: _) _; refine gq_inv rfl rfl ?_) | (show GR _ _ _ _ _ _ (⟨some _, none, .inv _ _ _⟩ :: _) _; refine gr_inv rfl rfl ?_) | (show GO _ _ _ _ _ (⟨some _, none, _⟩ :: _) _; first | refine go_op (hk := ?_) | (refine go_nw (hk := ?_); intro u; try simp only [llc, lln, lna, lza]) | (refine go_np (hk := ?_); intro id)) | (show GO _ _ _ _ _ (⟨none, none, _⟩ :: _) _; refine go_st (hk := ?_)) | (show GO _ _ _ _ _ (⟨_, some _, _⟩ :: _) _; first | refine go_in (hk := ?_) | refine go_out (hk := ?_) | refine go_void (hk := ?_)) | (show GK _ _ _ _ (blockK _ _ _); refine gk_past rfl ?_) | (show GC _ _ _ _ _ (.cond _ _ _) _; first | refine gc_yes (h1 := ?_) | refine gc_no (h1 := ?_))))
    exact gk_retc rfl (by exact Sel.auto) rfl rfl fun H' hH => ⟨rfl, hH.leE⟩

theorem lfP_pk (xs ws : List Int) : ∀ k, lfP (fun j => (j, ptR xs ws j)) k = (pkN xs ws k, ptR xs ws (pkN xs ws k))
  | 0 => rfl
  | k + 1 => by
    rw [lfP, lfP_pk xs ws k]
    dsimp only
    rw [show pkN xs ws (k + 1) = if ptR xs ws (k + 1) < ptR xs ws (pkN xs ws k) then k + 1 else pkN xs ws k from rfl]
    split <;> rfl

theorem nthQ_drop {n i : Nat} {g : Nat → Nat × Rat} (h : i < n) : nthQ ((tabS (n + 1) g).drop 1) i = g (i + 1) := by
  have h1 : i < ((tabS (n + 1) g).drop 1).length := by rw [List.length_drop, tabS_len]; omega
  rw [show nthQ ((tabS (n + 1) g).drop 1) i = ((tabS (n + 1) g).drop 1)[i] from nthA_of h1, List.getElem_drop]
  simp only [tabS, List.getElem_map, List.getElem_range, Nat.add_comm]

theorem tabS_snoc {α : Type} (n : Nat) (g : Nat → α) : tabS n g ++ [g n] = tabS (n + 1) g := by
  unfold tabS
  rw [List.range_succ, List.map_append]; rfl

theorem implPeakOf_ok {H : Heap} {a b : AV} {xs ws : List Int} (ha : Ints H a xs) (hb : Ints H b ws) (hl : xs.length ≤ 1000000000) (hl' : ws.length ≤ 1000000000) :
    ACalls Try.prog fn_impl_PeakOf [a, b] H fun r H' => r = pkX xs ws ∧ H' = H := by
  refine ACalls.val ?_ (by unfold pkX; split <;> rfl)
  refine code_impl_PeakOf.go [.roI a xs.length xs, .roI b ws.length ws] ⟨⟨rfl, ha⟩, ⟨rfl, hb⟩, trivial⟩ (by simp) ?_
  unfold mc_impl_PeakOf
  (repeat (first | refine gst (hk := ?_) | (with_reducible first | (refine gc_drw (h := ?_); intro _) | (refine gc_drw2 (h := ?_); intro _)) | (show GO _ _ _ _ _ (⟨some _, none, .call _ _⟩ :: _) _; first | (refine go_callp rfl code_impl_ValidLoads.callable (fun H hH => implValidLoads_ok (hH.ints (by exact Has.auto)) (hH.ints (by exact Has.auto)) (by omega) (by omega)) ?_)) | (show GO _ _ _ _ _ (⟨some _, none, _⟩ :: _) _; first | refine go_op (hk := ?_) | (refine go_nw (hk := ?_); intro u; try simp only [llc, lln, lna, lza]) | (refine go_np (hk := ?_); intro id)) | (show GD _ _ _ _ _ _ _ (⟨some _, none, _⟩ :: _) _; first | refine gd_op (hk := ?_) | (refine gd_nw (hk := ?_); intro u; try simp only [llc, lln, lna, lza])) | (show GD2 _ _ _ _ _ _ _ _ _ _ _ _ _ _; first | refine gd2_nil rfl ?_ | refine gd2_op (hk := ?_) | (refine gd2_nw (hk := ?_); intro u; try simp only [llc, lln, lna, lza]) | refine gd2_l (hk := ?_) | refine gd2_lp (hk := ?_) | (refine gd2_newp (hk := ?_); intro id) | refine gd2_st (hk := ?_) | (refine gd2_bsl rfl rfl ?_; intro u; try simp only [llc, lln, lna, lza]) | (refine gd2_a (hk := ?_); intro u; try simp only [llc, lln, lna, lza])) | (show GO _ _ _ _ _ (⟨none, none, _⟩ :: _) _; refine go_st (hk := ?_)) | (show GD _ _ _ _ _ _ _ (⟨none, none, _⟩ :: _) _; refine gd_st (hk := ?_)) | (show GO _ _ _ _ _ (⟨_, some _, _⟩ :: _) _; first | refine go_in (hk := ?_) | refine go_out (hk := ?_) | refine go_void (hk := ?_)) | (show GK _ _ _ _ (blockK _ _ _); refine gk_past rfl ?_) | (show GC _ _ _ _ _ (.cond _ _ _) _; first | refine gc_yes (h1 := ?_) | refine gc_no (h1 := ?_))))
  refine gc_cond rfl (fun h => ?_) (fun h => ?_)
  · (repeat (first | refine gst (hk := ?_) | (with_reducible first | (refine gc_drw (h := ?_); intro _) | (refine gc_drw2 (h := ?_); intro _)) | (show GO _ _ _ _ _ (⟨some _, none, .call _ _⟩ :: _) _; first | (refine go_callp rfl code_impl_ValidLoads.callable (fun H hH => implValidLoads_ok (hH.ints (by exact Has.auto)) (hH.ints (by exact Has.auto)) (by omega) (by omega)) ?_)) | (show GO _ _ _ _ _ (⟨some _, none, _⟩ :: _) _; first | refine go_op (hk := ?_) | (refine go_nw (hk := ?_); intro u; try simp only [llc, lln, lna, lza]) | (refine go_np (hk := ?_); intro id)) | (show GD _ _ _ _ _ _ _ (⟨some _, none, _⟩ :: _) _; first | refine gd_op (hk := ?_) | (refine gd_nw (hk := ?_); intro u; try simp only [llc, lln, lna, lza])) | (show GD2 _ _ _ _ _ _ _ _ _ _ _ _ _ _; first | refine gd2_nil rfl ?_ | refine gd2_op (hk := ?_) | (refine gd2_nw (hk := ?_); intro u; try simp only [llc, lln, lna, lza]) | refine gd2_l (hk := ?_) | refine gd2_lp (hk := ?_) | (refine gd2_newp (hk := ?_); intro id) | refine gd2_st (hk := ?_) | (refine gd2_bsl rfl rfl ?_; intro u; try simp only [llc, lln, lna, lza]) | (refine gd2_a (hk := ?_); intro u; try simp only [llc, lln, lna, lza])) | (show GO _ _ _ _ _ (⟨none, none, _⟩ :: _) _; refine go_st (hk := ?_)) | (show GD _ _ _ _ _ _ _ (⟨none, none, _⟩ :: _) _; refine gd_st (hk := ?_)) | (show GO _ _ _ _ _ (⟨_, some _, _⟩ :: _) _; first | refine go_in (hk := ?_) | refine go_out (hk := ?_) | refine go_void (hk := ?_)) | (show GK _ _ _ _ (blockK _ _ _); refine gk_past rfl ?_) | (show GC _ _ _ _ _ (.cond _ _ _) _; first | refine gc_yes (h1 := ?_) | refine gc_no (h1 := ?_))))
    exact gk_rets (rvs_t rfl (rvs_c rfl (by exact Sel.auto) rfl rfl (rvs_t rfl rvs_nil))) fun H' hH => ⟨by unfold pkX; rw [if_neg h]; rfl, hH.leE⟩
  have hL := Decidable.not_not.1 h
  have hn := hL.2.2.2.2
  have hpl := ptL_len xs ws
  (repeat (first | refine gst (hk := ?_) | (with_reducible first | (refine gc_drw (h := ?_); intro _) | (refine gc_drw2 (h := ?_); intro _)) | (show GO _ _ _ _ _ (⟨some _, none, .call _ _⟩ :: _) _; first | (refine go_callp rfl code_impl_ValidLoads.callable (fun H hH => implValidLoads_ok (hH.ints (by exact Has.auto)) (hH.ints (by exact Has.auto)) (by omega) (by omega)) ?_)) | (show GO _ _ _ _ _ (⟨some _, none, _⟩ :: _) _; first | refine go_op (hk := ?_) | (refine go_nw (hk := ?_); intro u; try simp only [llc, lln, lna, lza]) | (refine go_np (hk := ?_); intro id)) | (show GD _ _ _ _ _ _ _ (⟨some _, none, _⟩ :: _) _; first | refine gd_op (hk := ?_) | (refine gd_nw (hk := ?_); intro u; try simp only [llc, lln, lna, lza])) | (show GD2 _ _ _ _ _ _ _ _ _ _ _ _ _ _; first | refine gd2_nil rfl ?_ | refine gd2_op (hk := ?_) | (refine gd2_nw (hk := ?_); intro u; try simp only [llc, lln, lna, lza]) | refine gd2_l (hk := ?_) | refine gd2_lp (hk := ?_) | (refine gd2_newp (hk := ?_); intro id) | refine gd2_st (hk := ?_) | (refine gd2_bsl rfl rfl ?_; intro u; try simp only [llc, lln, lna, lza]) | (refine gd2_a (hk := ?_); intro u; try simp only [llc, lln, lna, lza])) | (show GO _ _ _ _ _ (⟨none, none, _⟩ :: _) _; refine go_st (hk := ?_)) | (show GD _ _ _ _ _ _ _ (⟨none, none, _⟩ :: _) _; refine gd_st (hk := ?_)) | (show GO _ _ _ _ _ (⟨_, some _, _⟩ :: _) _; first | refine go_in (hk := ?_) | refine go_out (hk := ?_) | refine go_void (hk := ?_)) | (show GK _ _ _ _ (blockK _ _ _); refine gk_past rfl ?_) | (show GC _ _ _ _ _ (.cond _ _ _) _; first | refine gc_yes (h1 := ?_) | refine gc_no (h1 := ?_))))
  revert id; intro i5
  refine go_calln rfl code_impl_loadsOf.callable (fun H hH => loadsOf_ok (hH.ints (by exact Has.auto)) (hH.ints (by exact Has.auto)) hL.2.2.1 (by omega)) ?_
  intro u
  (repeat (first | refine gst (hk := ?_) | (with_reducible first | (refine gc_drw (h := ?_); intro _) | (refine gc_drw2 (h := ?_); intro _)) | (show GO _ _ _ _ _ (⟨some _, none, .call _ _⟩ :: _) _; first | (refine go_callp rfl code_impl_ValidLoads.callable (fun H hH => implValidLoads_ok (hH.ints (by exact Has.auto)) (hH.ints (by exact Has.auto)) (by omega) (by omega)) ?_)) | (show GO _ _ _ _ _ (⟨some _, none, _⟩ :: _) _; first | refine go_op (hk := ?_) | (refine go_nw (hk := ?_); intro u; try simp only [llc, lln, lna, lza]) | (refine go_np (hk := ?_); intro id)) | (show GD _ _ _ _ _ _ _ (⟨some _, none, _⟩ :: _) _; first | refine gd_op (hk := ?_) | (refine gd_nw (hk := ?_); intro u; try simp only [llc, lln, lna, lza])) | (show GD2 _ _ _ _ _ _ _ _ _ _ _ _ _ _; first | refine gd2_nil rfl ?_ | refine gd2_op (hk := ?_) | (refine gd2_nw (hk := ?_); intro u; try simp only [llc, lln, lna, lza]) | refine gd2_l (hk := ?_) | refine gd2_lp (hk := ?_) | (refine gd2_newp (hk := ?_); intro id) | refine gd2_st (hk := ?_) | (refine gd2_bsl rfl rfl ?_; intro u; try simp only [llc, lln, lna, lza]) | (refine gd2_a (hk := ?_); intro u; try simp only [llc, lln, lna, lza])) | (show GO _ _ _ _ _ (⟨none, none, _⟩ :: _) _; refine go_st (hk := ?_)) | (show GD _ _ _ _ _ _ _ (⟨none, none, _⟩ :: _) _; refine gd_st (hk := ?_)) | (show GO _ _ _ _ _ (⟨_, some _, _⟩ :: _) _; first | refine go_in (hk := ?_) | refine go_out (hk := ?_) | refine go_void (hk := ?_)) | (show GK _ _ _ _ (blockK _ _ _); refine gk_past rfl ?_) | (show GC _ _ _ _ _ (.cond _ _ _) _; first | refine gc_yes (h1 := ?_) | refine gc_no (h1 := ?_))))
  refine gc_nilK 3 ?_
  refine gc_upv (xs.length + 1) (fun k p => [(5, .ptr i5 0), (7, u), (8, p), (21, .int .i64 ((xs.length + 1 : Nat) : Int)), (22, .int .i64 (k : Int))]) (fun k p => [⟨.rw, p, 3, k, pks (tabS k fun j => (j, ptR xs ws j))⟩, cel0 i5, rwP u xs.length (ptL xs ws), .roI a xs.length xs, .roI b ws.length ws]) .nilSlice (hb := ?_)
  intro k p hk I ν m hk2
  (repeat (first | refine gst (hk := ?_) | (with_reducible first | (refine gc_drw (h := ?_); intro _) | (refine gc_drw2 (h := ?_); intro _)) | (show GO _ _ _ _ _ (⟨some _, none, .call _ _⟩ :: _) _; first | (refine go_callp rfl code_impl_ValidLoads.callable (fun H hH => implValidLoads_ok (hH.ints (by exact Has.auto)) (hH.ints (by exact Has.auto)) (by omega) (by omega)) ?_)) | (show GO _ _ _ _ _ (⟨some _, none, _⟩ :: _) _; first | refine go_op (hk := ?_) | (refine go_nw (hk := ?_); intro u; try simp only [llc, lln, lna, lza]) | (refine go_np (hk := ?_); intro id)) | (show GD _ _ _ _ _ _ _ (⟨some _, none, _⟩ :: _) _; first | refine gd_op (hk := ?_) | (refine gd_nw (hk := ?_); intro u; try simp only [llc, lln, lna, lza])) | (show GD2 _ _ _ _ _ _ _ _ _ _ _ _ _ _; first | refine gd2_nil rfl ?_ | refine gd2_op (hk := ?_) | (refine gd2_nw (hk := ?_); intro u; try simp only [llc, lln, lna, lza]) | refine gd2_l (hk := ?_) | refine gd2_lp (hk := ?_) | (refine gd2_newp (hk := ?_); intro id) | refine gd2_st (hk := ?_) | (refine gd2_bsl rfl rfl ?_; intro u; try simp only [llc, lln, lna, lza]) | (refine gd2_a (hk := ?_); intro u; try simp only [llc, lln, lna, lza])) | (show GO _ _ _ _ _ (⟨none, none, _⟩ :: _) _; refine go_st (hk := ?_)) | (show GD _ _ _ _ _ _ _ (⟨none, none, _⟩ :: _) _; refine gd_st (hk := ?_)) | (show GO _ _ _ _ _ (⟨_, some _, _⟩ :: _) _; first | refine go_in (hk := ?_) | refine go_out (hk := ?_) | refine go_void (hk := ?_)) | (show GK _ _ _ _ (blockK _ _ _); refine gk_past rfl ?_) | (show GC _ _ _ _ _ (.cond _ _ _) _; first | refine gc_yes (h1 := ?_) | refine gc_no (h1 := ?_))))
  refine gc_cond rfl (fun h1 => ?_) (fun h1 => ?_)
  · have hk2 := hk2 (by omega)
    have hkn : k ≤ xs.length := by omega
    have htl : (xs.take k).length = k := by rw [List.length_take]; omega
    have hfit := (hL.pt_fits hkn).c
    rw [show ((0 : Int) : Rat) + miE (xs.take k) (ws.take k) = miE (xs.take k) (ws.take k) by rw [intc0]; grind] at hfit
    (repeat (first | refine gst (hk := ?_) | (with_reducible first | (refine gc_drw (h := ?_); intro _) | (refine gc_drw2 (h := ?_); intro _)) | (show GO _ _ _ _ _ (⟨some _, none, .call _ _⟩ :: _) _; first | (refine go_callp rfl code_impl_ValidLoads.callable (fun H hH => implValidLoads_ok (hH.ints (by exact Has.auto)) (hH.ints (by exact Has.auto)) (by omega) (by omega)) ?_)) | (show GO _ _ _ _ _ (⟨some _, none, _⟩ :: _) _; first | refine go_op (hk := ?_) | (refine go_nw (hk := ?_); intro u; try simp only [llc, lln, lna, lza]) | (refine go_np (hk := ?_); intro id)) | (show GD _ _ _ _ _ _ _ (⟨some _, none, _⟩ :: _) _; first | refine gd_op (hk := ?_) | (refine gd_nw (hk := ?_); intro u; try simp only [llc, lln, lna, lza])) | (show GD2 _ _ _ _ _ _ _ _ _ _ _ _ _ _; first | refine gd2_nil rfl ?_ | refine gd2_op (hk := ?_) | (refine gd2_nw (hk := ?_); intro u; try simp only [llc, lln, lna, lza]) | refine gd2_l (hk := ?_) | refine gd2_lp (hk := ?_) | (refine gd2_newp (hk := ?_); intro id) | refine gd2_st (hk := ?_) | (refine gd2_bsl rfl rfl ?_; intro u; try simp only [llc, lln, lna, lza]) | (refine gd2_a (hk := ?_); intro u; try simp only [llc, lln, lna, lza])) | (show GO _ _ _ _ _ (⟨none, none, _⟩ :: _) _; refine go_st (hk := ?_)) | (show GD _ _ _ _ _ _ _ (⟨none, none, _⟩ :: _) _; refine gd_st (hk := ?_)) | (show GO _ _ _ _ _ (⟨_, some _, _⟩ :: _) _; first | refine go_in (hk := ?_) | refine go_out (hk := ?_) | refine go_void (hk := ?_)) | (show GK _ _ _ _ (blockK _ _ _); refine gk_past rfl ?_) | (show GC _ _ _ _ _ (.cond _ _ _) _; first | refine gc_yes (h1 := ?_) | refine gc_no (h1 := ?_))))
    refine gc_dra1 ?_
    (repeat (first | refine gst (hk := ?_) | (with_reducible first | (refine gc_drw (h := ?_); intro _) | (refine gc_drw2 (h := ?_); intro _)) | (show GO _ _ _ _ _ (⟨some _, none, .call _ _⟩ :: _) _; first | (refine go_callp rfl code_impl_ValidLoads.callable (fun H hH => implValidLoads_ok (hH.ints (by exact Has.auto)) (hH.ints (by exact Has.auto)) (by omega) (by omega)) ?_)) | (show GO _ _ _ _ _ (⟨some _, none, _⟩ :: _) _; first | refine go_op (hk := ?_) | (refine go_nw (hk := ?_); intro u; try simp only [llc, lln, lna, lza]) | (refine go_np (hk := ?_); intro id)) | (show GD _ _ _ _ _ _ _ (⟨some _, none, _⟩ :: _) _; first | refine gd_op (hk := ?_) | (refine gd_nw (hk := ?_); intro u; try simp only [llc, lln, lna, lza])) | (show GD2 _ _ _ _ _ _ _ _ _ _ _ _ _ _; first | refine gd2_nil rfl ?_ | refine gd2_op (hk := ?_) | (refine gd2_nw (hk := ?_); intro u; try simp only [llc, lln, lna, lza]) | refine gd2_l (hk := ?_) | refine gd2_lp (hk := ?_) | (refine gd2_newp (hk := ?_); intro id) | refine gd2_st (hk := ?_) | (refine gd2_bsl rfl rfl ?_; intro u; try simp only [llc, lln, lna, lza]) | (refine gd2_a (hk := ?_); intro u; try simp only [llc, lln, lna, lza])) | (show GO _ _ _ _ _ (⟨none, none, _⟩ :: _) _; refine go_st (hk := ?_)) | (show GD _ _ _ _ _ _ _ (⟨none, none, _⟩ :: _) _; refine gd_st (hk := ?_)) | (show GO _ _ _ _ _ (⟨_, some _, _⟩ :: _) _; first | refine go_in (hk := ?_) | refine go_out (hk := ?_) | refine go_void (hk := ?_)) | (show GK _ _ _ _ (blockK _ _ _); refine gk_past rfl ?_) | (show GC _ _ _ _ _ (.cond _ _ _) _; first | refine gc_yes (h1 := ?_) | refine gc_no (h1 := ?_))))
    refine go_is rfl (stp_slh (l := k) rfl rfl (by exact Sel.auto) (by omega)) ?_
    (repeat (first | refine gst (hk := ?_) | (with_reducible first | (refine gc_drw (h := ?_); intro _) | (refine gc_drw2 (h := ?_); intro _)) | (show GO _ _ _ _ _ (⟨some _, none, .call _ _⟩ :: _) _; first | (refine go_callp rfl code_impl_ValidLoads.callable (fun H hH => implValidLoads_ok (hH.ints (by exact Has.auto)) (hH.ints (by exact Has.auto)) (by omega) (by omega)) ?_)) | (show GO _ _ _ _ _ (⟨some _, none, _⟩ :: _) _; first | refine go_op (hk := ?_) | (refine go_nw (hk := ?_); intro u; try simp only [llc, lln, lna, lza]) | (refine go_np (hk := ?_); intro id)) | (show GD _ _ _ _ _ _ _ (⟨some _, none, _⟩ :: _) _; first | refine gd_op (hk := ?_) | (refine gd_nw (hk := ?_); intro u; try simp only [llc, lln, lna, lza])) | (show GD2 _ _ _ _ _ _ _ _ _ _ _ _ _ _; first | refine gd2_nil rfl ?_ | refine gd2_op (hk := ?_) | (refine gd2_nw (hk := ?_); intro u; try simp only [llc, lln, lna, lza]) | refine gd2_l (hk := ?_) | refine gd2_lp (hk := ?_) | (refine gd2_newp (hk := ?_); intro id) | refine gd2_st (hk := ?_) | (refine gd2_bsl rfl rfl ?_; intro u; try simp only [llc, lln, lna, lza]) | (refine gd2_a (hk := ?_); intro u; try simp only [llc, lln, lna, lza])) | (show GO _ _ _ _ _ (⟨none, none, _⟩ :: _) _; refine go_st (hk := ?_)) | (show GD _ _ _ _ _ _ _ (⟨none, none, _⟩ :: _) _; refine gd_st (hk := ?_)) | (show GO _ _ _ _ _ (⟨_, some _, _⟩ :: _) _; first | refine go_in (hk := ?_) | refine go_out (hk := ?_) | refine go_void (hk := ?_)) | (show GK _ _ _ _ (blockK _ _ _); refine gk_past rfl ?_) | (show GC _ _ _ _ _ (.cond _ _ _) _; first | refine gc_yes (h1 := ?_) | refine gc_no (h1 := ?_))))
    refine go_is rfl (stp_slw (l := k) rfl rfl (by exact Sel.auto) (by omega)) ?_
    refine go_callp rfl code_impl_riseMiss.callable (fun H hH => riseMiss_ok (xs := xs.take k) (ws := ws.take k) (by
      have h := vals_pre (h := k) cels_pn (hH.valsA (v := u) (es := 2) (n := xs.length) (cs := pns (ptL xs ws)) (by exact Has.auto)) hpl.symm hkn
      rw [ptL_take hL.2.2.1] at h
      rw [htl]; exact h) (hL.two hkn).1) ?_
    refine go_callw rfl code_impl_fallMiss.callable (fun H hH => fallMiss_ok hH (by exact Sel.auto) hL hkn) ?_
    refine go_callp rfl code_impl_Frac_plus.callable (fun H hH => implPlus_ok (p := miE (xs.take k) (ws.take k)) (q := miE (xs.drop k).reverse (ws.drop k).reverse) hfit) ?_
    rw [show miE (xs.take k) (ws.take k) + miE (xs.drop k).reverse (ws.drop k).reverse = ptR xs ws k from rfl]
    (repeat (first | refine gst (hk := ?_) | (with_reducible first | (refine gc_drw (h := ?_); intro _) | (refine gc_drw2 (h := ?_); intro _)) | (show GO _ _ _ _ _ (⟨some _, none, .call _ _⟩ :: _) _; first | (refine go_callp rfl code_impl_ValidLoads.callable (fun H hH => implValidLoads_ok (hH.ints (by exact Has.auto)) (hH.ints (by exact Has.auto)) (by omega) (by omega)) ?_)) | (show GO _ _ _ _ _ (⟨some _, none, _⟩ :: _) _; first | refine go_op (hk := ?_) | (refine go_nw (hk := ?_); intro u; try simp only [llc, lln, lna, lza]) | (refine go_np (hk := ?_); intro id)) | (show GD _ _ _ _ _ _ _ (⟨some _, none, _⟩ :: _) _; first | refine gd_op (hk := ?_) | (refine gd_nw (hk := ?_); intro u; try simp only [llc, lln, lna, lza])) | (show GD2 _ _ _ _ _ _ _ _ _ _ _ _ _ _; first | refine gd2_nil rfl ?_ | refine gd2_op (hk := ?_) | (refine gd2_nw (hk := ?_); intro u; try simp only [llc, lln, lna, lza]) | refine gd2_l (hk := ?_) | refine gd2_lp (hk := ?_) | (refine gd2_newp (hk := ?_); intro id) | refine gd2_st (hk := ?_) | (refine gd2_bsl rfl rfl ?_; intro u; try simp only [llc, lln, lna, lza]) | (refine gd2_a (hk := ?_); intro u; try simp only [llc, lln, lna, lza])) | (show GO _ _ _ _ _ (⟨none, none, _⟩ :: _) _; refine go_st (hk := ?_)) | (show GD _ _ _ _ _ _ _ (⟨none, none, _⟩ :: _) _; refine gd_st (hk := ?_)) | (show GO _ _ _ _ _ (⟨_, some _, _⟩ :: _) _; first | refine go_in (hk := ?_) | refine go_out (hk := ?_) | refine go_void (hk := ?_)) | (show GK _ _ _ _ (blockK _ _ _); refine gk_past rfl ?_) | (show GC _ _ _ _ _ (.cond _ _ _) _; first | refine gc_yes (h1 := ?_) | refine gc_no (h1 := ?_))))
    refine go_new rfl (stp_appK cels_pk (by omega) (v := p) (n := k) (m' := 1) (L := tabS k fun j => (j, ptR xs ws j)) (M := [(k, ptR xs ws k)]) rfl rfl (by exact Sel.auto) (by exact Has.rw) (by omega) (by omega)) ?_
    intro p'
    have e : (tabS k fun j => (j, ptR xs ws j)) ++ [(k, ptR xs ws k)] = tabS (k + 1) fun j => (j, ptR xs ws j) := tabS_snoc k fun j => (j, ptR xs ws j)
    rw [e]
    (repeat (first | refine gst (hk := ?_) | (with_reducible first | (refine gc_drw (h := ?_); intro _) | (refine gc_drw2 (h := ?_); intro _)) | (show GO _ _ _ _ _ (⟨some _, none, .call _ _⟩ :: _) _; first | (refine go_callp rfl code_impl_ValidLoads.callable (fun H hH => implValidLoads_ok (hH.ints (by exact Has.auto)) (hH.ints (by exact Has.auto)) (by omega) (by omega)) ?_)) | (show GO _ _ _ _ _ (⟨some _, none, _⟩ :: _) _; first | refine go_op (hk := ?_) | (refine go_nw (hk := ?_); intro u; try simp only [llc, lln, lna, lza]) | (refine go_np (hk := ?_); intro id)) | (show GD _ _ _ _ _ _ _ (⟨some _, none, _⟩ :: _) _; first | refine gd_op (hk := ?_) | (refine gd_nw (hk := ?_); intro u; try simp only [llc, lln, lna, lza])) | (show GD2 _ _ _ _ _ _ _ _ _ _ _ _ _ _; first | refine gd2_nil rfl ?_ | refine gd2_op (hk := ?_) | (refine gd2_nw (hk := ?_); intro u; try simp only [llc, lln, lna, lza]) | refine gd2_l (hk := ?_) | refine gd2_lp (hk := ?_) | (refine gd2_newp (hk := ?_); intro id) | refine gd2_st (hk := ?_) | (refine gd2_bsl rfl rfl ?_; intro u; try simp only [llc, lln, lna, lza]) | (refine gd2_a (hk := ?_); intro u; try simp only [llc, lln, lna, lza])) | (show GO _ _ _ _ _ (⟨none, none, _⟩ :: _) _; refine go_st (hk := ?_)) | (show GD _ _ _ _ _ _ _ (⟨none, none, _⟩ :: _) _; refine gd_st (hk := ?_)) | (show GO _ _ _ _ _ (⟨_, some _, _⟩ :: _) _; first | refine go_in (hk := ?_) | refine go_out (hk := ?_) | refine go_void (hk := ?_)) | (show GK _ _ _ _ (blockK _ _ _); refine gk_past rfl ?_) | (show GC _ _ _ _ _ (.cond _ _ _) _; first | refine gc_yes (h1 := ?_) | refine gc_no (h1 := ?_))))
    exact gk_next (hk2 p')
  · obtain rfl : k = xs.length + 1 := by omega
    (repeat (first | refine gst (hk := ?_) | (with_reducible first | (refine gc_drw (h := ?_); intro _) | (refine gc_drw2 (h := ?_); intro _)) | (show GO _ _ _ _ _ (⟨some _, none, .call _ _⟩ :: _) _; first | (refine go_callp rfl code_impl_ValidLoads.callable (fun H hH => implValidLoads_ok (hH.ints (by exact Has.auto)) (hH.ints (by exact Has.auto)) (by omega) (by omega)) ?_)) | (show GO _ _ _ _ _ (⟨some _, none, _⟩ :: _) _; first | refine go_op (hk := ?_) | (refine go_nw (hk := ?_); intro u; try simp only [llc, lln, lna, lza]) | (refine go_np (hk := ?_); intro id)) | (show GD _ _ _ _ _ _ _ (⟨some _, none, _⟩ :: _) _; first | refine gd_op (hk := ?_) | (refine gd_nw (hk := ?_); intro u; try simp only [llc, lln, lna, lza])) | (show GD2 _ _ _ _ _ _ _ _ _ _ _ _ _ _; first | refine gd2_nil rfl ?_ | refine gd2_op (hk := ?_) | (refine gd2_nw (hk := ?_); intro u; try simp only [llc, lln, lna, lza]) | refine gd2_l (hk := ?_) | refine gd2_lp (hk := ?_) | (refine gd2_newp (hk := ?_); intro id) | refine gd2_st (hk := ?_) | (refine gd2_bsl rfl rfl ?_; intro u; try simp only [llc, lln, lna, lza]) | (refine gd2_a (hk := ?_); intro u; try simp only [llc, lln, lna, lza])) | (show GO _ _ _ _ _ (⟨none, none, _⟩ :: _) _; refine go_st (hk := ?_)) | (show GD _ _ _ _ _ _ _ (⟨none, none, _⟩ :: _) _; refine gd_st (hk := ?_)) | (show GO _ _ _ _ _ (⟨_, some _, _⟩ :: _) _; first | refine go_in (hk := ?_) | refine go_out (hk := ?_) | refine go_void (hk := ?_)) | (show GK _ _ _ _ (blockK _ _ _); refine gk_past rfl ?_) | (show GC _ _ _ _ _ (.cond _ _ _) _; first | refine gc_yes (h1 := ?_) | refine gc_no (h1 := ?_))))
    refine gc_dra_cut (γ := Nat) (fun i10 => [(5, .ptr i5 0), (10, .ptr i10 0)]) (fun i10 => [celP i10 (pkN xs ws xs.length, ptR xs ws (pkN xs ws xs.length)), cel0 i5]) ?_ (fun i10 => ?_)
    · refine gc_dra ?_ (gc_dra ?_ (gc_dra1 ?_))
      all_goals
        (repeat (first | refine gst (hk := ?_) | (with_reducible first | (refine gc_drw (h := ?_); intro _) | (refine gc_drw2 (h := ?_); intro _)) | (show GO _ _ _ _ _ (⟨some _, none, .call _ _⟩ :: _) _; first | (refine go_callp rfl code_impl_ValidLoads.callable (fun H hH => implValidLoads_ok (hH.ints (by exact Has.auto)) (hH.ints (by exact Has.auto)) (by omega) (by omega)) ?_)) | (show GO _ _ _ _ _ (⟨some _, none, _⟩ :: _) _; first | refine go_op (hk := ?_) | (refine go_nw (hk := ?_); intro u; try simp only [llc, lln, lna, lza]) | (refine go_np (hk := ?_); intro id)) | (show GD _ _ _ _ _ _ _ (⟨some _, none, _⟩ :: _) _; first | refine gd_op (hk := ?_) | (refine gd_nw (hk := ?_); intro u; try simp only [llc, lln, lna, lza])) | (show GD2 _ _ _ _ _ _ _ _ _ _ _ _ _ _; first | refine gd2_nil rfl ?_ | refine gd2_op (hk := ?_) | (refine gd2_nw (hk := ?_); intro u; try simp only [llc, lln, lna, lza]) | refine gd2_l (hk := ?_) | refine gd2_lp (hk := ?_) | (refine gd2_newp (hk := ?_); intro id) | refine gd2_st (hk := ?_) | (refine gd2_bsl rfl rfl ?_; intro u; try simp only [llc, lln, lna, lza]) | (refine gd2_a (hk := ?_); intro u; try simp only [llc, lln, lna, lza])) | (show GO _ _ _ _ _ (⟨none, none, _⟩ :: _) _; refine go_st (hk := ?_)) | (show GD _ _ _ _ _ _ _ (⟨none, none, _⟩ :: _) _; refine gd_st (hk := ?_)) | (show GO _ _ _ _ _ (⟨_, some _, _⟩ :: _) _; first | refine go_in (hk := ?_) | refine go_out (hk := ?_) | refine go_void (hk := ?_)) | (show GK _ _ _ _ (blockK _ _ _); refine gk_past rfl ?_) | (show GC _ _ _ _ _ (.cond _ _ _) _; first | refine gc_yes (h1 := ?_) | refine gc_no (h1 := ?_))))
        refine go_is rfl (stp_slw (l := 1) rfl rfl (by exact Sel.auto) (by omega)) ?_
        (repeat (first | refine gst (hk := ?_) | (with_reducible first | (refine gc_drw (h := ?_); intro _) | (refine gc_drw2 (h := ?_); intro _)) | (show GO _ _ _ _ _ (⟨some _, none, .call _ _⟩ :: _) _; first | (refine go_callp rfl code_impl_ValidLoads.callable (fun H hH => implValidLoads_ok (hH.ints (by exact Has.auto)) (hH.ints (by exact Has.auto)) (by omega) (by omega)) ?_)) | (show GO _ _ _ _ _ (⟨some _, none, _⟩ :: _) _; first | refine go_op (hk := ?_) | (refine go_nw (hk := ?_); intro u; try simp only [llc, lln, lna, lza]) | (refine go_np (hk := ?_); intro id)) | (show GD _ _ _ _ _ _ _ (⟨some _, none, _⟩ :: _) _; first | refine gd_op (hk := ?_) | (refine gd_nw (hk := ?_); intro u; try simp only [llc, lln, lna, lza])) | (show GD2 _ _ _ _ _ _ _ _ _ _ _ _ _ _; first | refine gd2_nil rfl ?_ | refine gd2_op (hk := ?_) | (refine gd2_nw (hk := ?_); intro u; try simp only [llc, lln, lna, lza]) | refine gd2_l (hk := ?_) | refine gd2_lp (hk := ?_) | (refine gd2_newp (hk := ?_); intro id) | refine gd2_st (hk := ?_) | (refine gd2_bsl rfl rfl ?_; intro u; try simp only [llc, lln, lna, lza]) | (refine gd2_a (hk := ?_); intro u; try simp only [llc, lln, lna, lza])) | (show GO _ _ _ _ _ (⟨none, none, _⟩ :: _) _; refine go_st (hk := ?_)) | (show GD _ _ _ _ _ _ _ (⟨none, none, _⟩ :: _) _; refine gd_st (hk := ?_)) | (show GO _ _ _ _ _ (⟨_, some _, _⟩ :: _) _; first | refine go_in (hk := ?_) | refine go_out (hk := ?_) | refine go_void (hk := ?_)) | (show GK _ _ _ _ (blockK _ _ _); refine gk_past rfl ?_) | (show GC _ _ _ _ _ (.cond _ _ _) _; first | refine gc_yes (h1 := ?_) | refine gc_no (h1 := ?_))))
        refine go_is rfl (stp_ldK cels_pk (0, 0) (i := 0) rfl (by exact Has.auto) (tabS_len _ _).symm (by rw [tabS_len]; omega)) ?_
        rw [show nthA (0, 0) (tabS (xs.length + 1) fun j => (j, ptR xs ws j)) 0 = (0, ptR xs ws 0) from tabS_nth (by omega)]
        (repeat (first | refine gst (hk := ?_) | (with_reducible first | (refine gc_drw (h := ?_); intro _) | (refine gc_drw2 (h := ?_); intro _)) | (show GO _ _ _ _ _ (⟨some _, none, .call _ _⟩ :: _) _; first | (refine go_callp rfl code_impl_ValidLoads.callable (fun H hH => implValidLoads_ok (hH.ints (by exact Has.auto)) (hH.ints (by exact Has.auto)) (by omega) (by omega)) ?_)) | (show GO _ _ _ _ _ (⟨some _, none, _⟩ :: _) _; first | refine go_op (hk := ?_) | (refine go_nw (hk := ?_); intro u; try simp only [llc, lln, lna, lza]) | (refine go_np (hk := ?_); intro id)) | (show GD _ _ _ _ _ _ _ (⟨some _, none, _⟩ :: _) _; first | refine gd_op (hk := ?_) | (refine gd_nw (hk := ?_); intro u; try simp only [llc, lln, lna, lza])) | (show GD2 _ _ _ _ _ _ _ _ _ _ _ _ _ _; first | refine gd2_nil rfl ?_ | refine gd2_op (hk := ?_) | (refine gd2_nw (hk := ?_); intro u; try simp only [llc, lln, lna, lza]) | refine gd2_l (hk := ?_) | refine gd2_lp (hk := ?_) | (refine gd2_newp (hk := ?_); intro id) | refine gd2_st (hk := ?_) | (refine gd2_bsl rfl rfl ?_; intro u; try simp only [llc, lln, lna, lza]) | (refine gd2_a (hk := ?_); intro u; try simp only [llc, lln, lna, lza])) | (show GO _ _ _ _ _ (⟨none, none, _⟩ :: _) _; refine go_st (hk := ?_)) | (show GD _ _ _ _ _ _ _ (⟨none, none, _⟩ :: _) _; refine gd_st (hk := ?_)) | (show GO _ _ _ _ _ (⟨_, some _, _⟩ :: _) _; first | refine go_in (hk := ?_) | refine go_out (hk := ?_) | refine go_void (hk := ?_)) | (show GK _ _ _ _ (blockK _ _ _); refine gk_past rfl ?_) | (show GC _ _ _ _ _ (.cond _ _ _) _; first | refine gc_yes (h1 := ?_) | refine gc_no (h1 := ?_))))
        refine go_callp rfl code_impl_least_impl_peak.callable (fun H hH => leastP_ok (g := fun j => (j, ptR xs ws j)) (L := (tabS (xs.length + 1) fun j => (j, ptR xs ws j)).drop 1) (by
          have h := vals_sub (l := 1) cels_pk (hH.valsA (v := p) (es := 3) (n := xs.length + 1) (cs := pks (tabS (xs.length + 1) fun j => (j, ptR xs ws j))) (by exact Has.auto)) (tabS_len _ _).symm (by omega)
          rw [show ((tabS (xs.length + 1) fun j => (j, ptR xs ws j)).drop 1).length = xs.length + 1 - 1 by rw [List.length_drop, tabS_len]]
          exact h) (fun i hi => nthQ_drop (by rw [List.length_drop, tabS_len] at hi; omega)) (by rw [List.length_drop, tabS_len]; omega) (fun i j hi hj => by
          rw [List.length_drop, tabS_len] at hi hj
          exact hL.pt_fit (by omega) (by omega))) ?_
        rw [show ((tabS (xs.length + 1) fun j => (j, ptR xs ws j)).drop 1).length = xs.length by rw [List.length_drop, tabS_len]; rfl, lfP_pk]
        (repeat (first | refine gst (hk := ?_) | (with_reducible first | (refine gc_drw (h := ?_); intro _) | (refine gc_drw2 (h := ?_); intro _)) | (show GO _ _ _ _ _ (⟨some _, none, .call _ _⟩ :: _) _; first | (refine go_callp rfl code_impl_ValidLoads.callable (fun H hH => implValidLoads_ok (hH.ints (by exact Has.auto)) (hH.ints (by exact Has.auto)) (by omega) (by omega)) ?_)) | (show GO _ _ _ _ _ (⟨some _, none, _⟩ :: _) _; first | refine go_op (hk := ?_) | (refine go_nw (hk := ?_); intro u; try simp only [llc, lln, lna, lza]) | (refine go_np (hk := ?_); intro id)) | (show GD _ _ _ _ _ _ _ (⟨some _, none, _⟩ :: _) _; first | refine gd_op (hk := ?_) | (refine gd_nw (hk := ?_); intro u; try simp only [llc, lln, lna, lza])) | (show GD2 _ _ _ _ _ _ _ _ _ _ _ _ _ _; first | refine gd2_nil rfl ?_ | refine gd2_op (hk := ?_) | (refine gd2_nw (hk := ?_); intro u; try simp only [llc, lln, lna, lza]) | refine gd2_l (hk := ?_) | refine gd2_lp (hk := ?_) | (refine gd2_newp (hk := ?_); intro id) | refine gd2_st (hk := ?_) | (refine gd2_bsl rfl rfl ?_; intro u; try simp only [llc, lln, lna, lza]) | (refine gd2_a (hk := ?_); intro u; try simp only [llc, lln, lna, lza])) | (show GO _ _ _ _ _ (⟨none, none, _⟩ :: _) _; refine go_st (hk := ?_)) | (show GD _ _ _ _ _ _ _ (⟨none, none, _⟩ :: _) _; refine gd_st (hk := ?_)) | (show GO _ _ _ _ _ (⟨_, some _, _⟩ :: _) _; first | refine go_in (hk := ?_) | refine go_out (hk := ?_) | refine go_void (hk := ?_)) | (show GK _ _ _ _ (blockK _ _ _); refine gk_past rfl ?_) | (show GC _ _ _ _ _ (.cond _ _ _) _; first | refine gc_yes (h1 := ?_) | refine gc_no (h1 := ?_))))
        exact gk_cut _ (by (repeat (refine Cov.cons (by exact rfl) ?_)); exact Cov.nil) (by exact Sub.auto)
    unfold celP pkC
    (repeat (first | refine gst (hk := ?_) | (with_reducible first | (refine gc_drw (h := ?_); intro _) | (refine gc_drw2 (h := ?_); intro _)) | (show GO _ _ _ _ _ (⟨some _, none, .call _ _⟩ :: _) _; first | (refine go_callp rfl code_impl_ValidLoads.callable (fun H hH => implValidLoads_ok (hH.ints (by exact Has.auto)) (hH.ints (by exact Has.auto)) (by omega) (by omega)) ?_)) | (show GO _ _ _ _ _ (⟨some _, none, _⟩ :: _) _; first | refine go_op (hk := ?_) | (refine go_nw (hk := ?_); intro u; try simp only [llc, lln, lna, lza]) | (refine go_np (hk := ?_); intro id)) | (show GD _ _ _ _ _ _ _ (⟨some _, none, _⟩ :: _) _; first | refine gd_op (hk := ?_) | (refine gd_nw (hk := ?_); intro u; try simp only [llc, lln, lna, lza])) | (show GD2 _ _ _ _ _ _ _ _ _ _ _ _ _ _; first | refine gd2_nil rfl ?_ | refine gd2_op (hk := ?_) | (refine gd2_nw (hk := ?_); intro u; try simp only [llc, lln, lna, lza]) | refine gd2_l (hk := ?_) | refine gd2_lp (hk := ?_) | (refine gd2_newp (hk := ?_); intro id) | refine gd2_st (hk := ?_) | (refine gd2_bsl rfl rfl ?_; intro u; try simp only [llc, lln, lna, lza]) | (refine gd2_a (hk := ?_); intro u; try simp only [llc, lln, lna, lza])) | (show GO _ _ _ _ _ (⟨none, none, _⟩ :: _) _; refine go_st (hk := ?_)) | (show GD _ _ _ _ _ _ _ (⟨none, none, _⟩ :: _) _; refine gd_st (hk := ?_)) | (show GO _ _ _ _ _ (⟨_, some _, _⟩ :: _) _; first | refine go_in (hk := ?_) | refine go_out (hk := ?_) | refine go_void (hk := ?_)) | (show GK _ _ _ _ (blockK _ _ _); refine gk_past rfl ?_) | (show GC _ _ _ _ _ (.cond _ _ _) _; first | refine gc_yes (h1 := ?_) | refine gc_no (h1 := ?_))))
    exact gk_rets (rvs_t rfl (rvs_c rfl (by exact Sel.auto) rfl rfl (rvs_t rfl rvs_nil))) fun H' hH => ⟨by unfold pkX; rw [if_pos hL]; rfl, hH.leE⟩

noncomputable def pkI (xs ws : List Int) : Int := if Loads xs ws then (pkN xs ws xs.length : Int) else 0

theorem pkX_t (xs ws : List Int) : pkX xs ws = .tuple [.int .i64 (pkI xs ws), opV (Loads xs ws) (ptR xs ws (pkN xs ws xs.length)), .bool (decide (Loads xs ws))] := by
  unfold pkX pkI
  by_cases h : Loads xs ws
  · rw [if_pos h, if_pos h, opV_yes h, decide_eq_true h]
  · rw [if_neg h, if_neg h, opV_no h, decide_eq_false h]

theorem specPeakOf_t {H : Heap} {a b : AV} {xs ws : List Int} (ha : Ints H a xs) (hb : Ints H b ws) (hl : xs.length ≤ 1000000000) (hl' : ws.length ≤ 1000000000) :
    ACalls Try.prog fn_spec_PeakOf [a, b] H fun r H' => r = .tuple [.int .i64 (pkI xs ws), opV (Loads xs ws) (ptR xs ws (pkN xs ws xs.length)), .bool (decide (Loads xs ws))] ∧ H' = H := by
  rw [← pkX_t]; exact specPeakOf_ok ha hb hl hl'

theorem implPeakOf_t {H : Heap} {a b : AV} {xs ws : List Int} (ha : Ints H a xs) (hb : Ints H b ws) (hl : xs.length ≤ 1000000000) (hl' : ws.length ≤ 1000000000) :
    ACalls Try.prog fn_impl_PeakOf [a, b] H fun r H' => r = .tuple [.int .i64 (pkI xs ws), opV (Loads xs ws) (ptR xs ws (pkN xs ws xs.length)), .bool (decide (Loads xs ws))] ∧ H' = H := by
  rw [← pkX_t]; exact implPeakOf_ok ha hb hl hl'

theorem lawFnExactPeakOf_ok {H : Heap} {a b : AV} {xs ys : List Int} (ha : Ints H a xs) (hb : Ints H b ys) : ACalls Try.prog fn_laws_FnExactPeakOf [a, b] H fun r _ => r = .bool true := by
  refine code_laws_FnExactPeakOf.go [.roI a xs.length xs, .roI b ys.length ys] ⟨⟨rfl, ha⟩, ⟨rfl, hb⟩, trivial⟩ (by simp) ?_
  unfold mc_laws_FnExactPeakOf
  (repeat (first | refine gst (hk := ?_) | (show GO _ _ _ _ _ (⟨some _, none, .call _ _⟩ :: _) _; first | (show GO _ _ _ _ _ (⟨some _, none, .call fn_laws_toIntS _⟩ :: _) _; refine go_toIntS (hk := ?_); try intro u) | (show GO _ _ _ _ _ (⟨some _, none, .call fn_laws_eqIntS _⟩ :: _) _; refine go_eqIntS (hk := ?_); try intro u) | (refine go_callp rfl code_spec_PeakOf.callable (fun H hH => specPeakOf_t (hH.ints (by exact Has.auto)) (hH.ints (by exact Has.auto)) (by omega) (by omega)) ?_) | (refine go_callp rfl code_impl_PeakOf.callable (fun H hH => implPeakOf_t (hH.ints (by exact Has.auto)) (hH.ints (by exact Has.auto)) (by omega) (by omega)) ?_) | (refine go_callp rfl code_laws_eqFrac.callable (fun H hH => eqFrac_ok) ?_)) | (show GO _ _ _ _ _ (⟨some _, none, _⟩ :: _) _; first | refine go_op (hk := ?_) | (refine go_nw (hk := ?_); intro u; try simp only [llc, lln, lna, lza]) | (refine go_np (hk := ?_); intro id)) | (show GO _ _ _ _ _ (⟨none, none, _⟩ :: _) _; refine go_st (hk := ?_)) | (show GO _ _ _ _ _ (⟨_, some _, _⟩ :: _) _; first | refine go_in (hk := ?_) | refine go_out (hk := ?_) | refine go_void (hk := ?_)) | (show GK _ _ _ _ (blockK _ _ _); refine gk_past rfl ?_) | (show GC _ _ _ _ _ (.cond _ _ _) _; first | refine gc_yes (h1 := ?_) | refine gc_no (h1 := ?_))))
  refine gc_cond rfl (fun h => ?_) (fun h => ?_)
  · (repeat (first | refine gst (hk := ?_) | (show GO _ _ _ _ _ (⟨some _, none, .call _ _⟩ :: _) _; first | (show GO _ _ _ _ _ (⟨some _, none, .call fn_laws_toIntS _⟩ :: _) _; refine go_toIntS (hk := ?_); try intro u) | (show GO _ _ _ _ _ (⟨some _, none, .call fn_laws_eqIntS _⟩ :: _) _; refine go_eqIntS (hk := ?_); try intro u) | (refine go_callp rfl code_spec_PeakOf.callable (fun H hH => specPeakOf_t (hH.ints (by exact Has.auto)) (hH.ints (by exact Has.auto)) (by omega) (by omega)) ?_) | (refine go_callp rfl code_impl_PeakOf.callable (fun H hH => implPeakOf_t (hH.ints (by exact Has.auto)) (hH.ints (by exact Has.auto)) (by omega) (by omega)) ?_) | (refine go_callp rfl code_laws_eqFrac.callable (fun H hH => eqFrac_ok) ?_)) | (show GO _ _ _ _ _ (⟨some _, none, _⟩ :: _) _; first | refine go_op (hk := ?_) | (refine go_nw (hk := ?_); intro u; try simp only [llc, lln, lna, lza]) | (refine go_np (hk := ?_); intro id)) | (show GO _ _ _ _ _ (⟨none, none, _⟩ :: _) _; refine go_st (hk := ?_)) | (show GO _ _ _ _ _ (⟨_, some _, _⟩ :: _) _; first | refine go_in (hk := ?_) | refine go_out (hk := ?_) | refine go_void (hk := ?_)) | (show GK _ _ _ _ (blockK _ _ _); refine gk_past rfl ?_) | (show GC _ _ _ _ _ (.cond _ _ _) _; first | refine gc_yes (h1 := ?_) | refine gc_no (h1 := ?_))))
    exact gk_ret rfl fun H' hH => rfl
  (repeat (first | refine gst (hk := ?_) | (show GO _ _ _ _ _ (⟨some _, none, .call _ _⟩ :: _) _; first | (show GO _ _ _ _ _ (⟨some _, none, .call fn_laws_toIntS _⟩ :: _) _; refine go_toIntS (hk := ?_); try intro u) | (show GO _ _ _ _ _ (⟨some _, none, .call fn_laws_eqIntS _⟩ :: _) _; refine go_eqIntS (hk := ?_); try intro u) | (refine go_callp rfl code_spec_PeakOf.callable (fun H hH => specPeakOf_t (hH.ints (by exact Has.auto)) (hH.ints (by exact Has.auto)) (by omega) (by omega)) ?_) | (refine go_callp rfl code_impl_PeakOf.callable (fun H hH => implPeakOf_t (hH.ints (by exact Has.auto)) (hH.ints (by exact Has.auto)) (by omega) (by omega)) ?_) | (refine go_callp rfl code_laws_eqFrac.callable (fun H hH => eqFrac_ok) ?_)) | (show GO _ _ _ _ _ (⟨some _, none, _⟩ :: _) _; first | refine go_op (hk := ?_) | (refine go_nw (hk := ?_); intro u; try simp only [llc, lln, lna, lza]) | (refine go_np (hk := ?_); intro id)) | (show GO _ _ _ _ _ (⟨none, none, _⟩ :: _) _; refine go_st (hk := ?_)) | (show GO _ _ _ _ _ (⟨_, some _, _⟩ :: _) _; first | refine go_in (hk := ?_) | refine go_out (hk := ?_) | refine go_void (hk := ?_)) | (show GK _ _ _ _ (blockK _ _ _); refine gk_past rfl ?_) | (show GC _ _ _ _ _ (.cond _ _ _) _; first | refine gc_yes (h1 := ?_) | refine gc_no (h1 := ?_))))
  refine gc_cond rfl (fun h => ?_) (fun h => ?_)
  · (repeat (first | refine gst (hk := ?_) | (show GO _ _ _ _ _ (⟨some _, none, .call _ _⟩ :: _) _; first | (show GO _ _ _ _ _ (⟨some _, none, .call fn_laws_toIntS _⟩ :: _) _; refine go_toIntS (hk := ?_); try intro u) | (show GO _ _ _ _ _ (⟨some _, none, .call fn_laws_eqIntS _⟩ :: _) _; refine go_eqIntS (hk := ?_); try intro u) | (refine go_callp rfl code_spec_PeakOf.callable (fun H hH => specPeakOf_t (hH.ints (by exact Has.auto)) (hH.ints (by exact Has.auto)) (by omega) (by omega)) ?_) | (refine go_callp rfl code_impl_PeakOf.callable (fun H hH => implPeakOf_t (hH.ints (by exact Has.auto)) (hH.ints (by exact Has.auto)) (by omega) (by omega)) ?_) | (refine go_callp rfl code_laws_eqFrac.callable (fun H hH => eqFrac_ok) ?_)) | (show GO _ _ _ _ _ (⟨some _, none, _⟩ :: _) _; first | refine go_op (hk := ?_) | (refine go_nw (hk := ?_); intro u; try simp only [llc, lln, lna, lza]) | (refine go_np (hk := ?_); intro id)) | (show GO _ _ _ _ _ (⟨none, none, _⟩ :: _) _; refine go_st (hk := ?_)) | (show GO _ _ _ _ _ (⟨_, some _, _⟩ :: _) _; first | refine go_in (hk := ?_) | refine go_out (hk := ?_) | refine go_void (hk := ?_)) | (show GK _ _ _ _ (blockK _ _ _); refine gk_past rfl ?_) | (show GC _ _ _ _ _ (.cond _ _ _) _; first | refine gc_yes (h1 := ?_) | refine gc_no (h1 := ?_))))
    exact gk_ret rfl fun H' hH => rfl
  (repeat (first | refine gst (hk := ?_) | (show GO _ _ _ _ _ (⟨some _, none, .call _ _⟩ :: _) _; first | (show GO _ _ _ _ _ (⟨some _, none, .call fn_laws_toIntS _⟩ :: _) _; refine go_toIntS (hk := ?_); try intro u) | (show GO _ _ _ _ _ (⟨some _, none, .call fn_laws_eqIntS _⟩ :: _) _; refine go_eqIntS (hk := ?_); try intro u) | (refine go_callp rfl code_spec_PeakOf.callable (fun H hH => specPeakOf_t (hH.ints (by exact Has.auto)) (hH.ints (by exact Has.auto)) (by omega) (by omega)) ?_) | (refine go_callp rfl code_impl_PeakOf.callable (fun H hH => implPeakOf_t (hH.ints (by exact Has.auto)) (hH.ints (by exact Has.auto)) (by omega) (by omega)) ?_) | (refine go_callp rfl code_laws_eqFrac.callable (fun H hH => eqFrac_ok) ?_)) | (show GO _ _ _ _ _ (⟨some _, none, _⟩ :: _) _; first | refine go_op (hk := ?_) | (refine go_nw (hk := ?_); intro u; try simp only [llc, lln, lna, lza]) | (refine go_np (hk := ?_); intro id)) | (show GO _ _ _ _ _ (⟨none, none, _⟩ :: _) _; refine go_st (hk := ?_)) | (show GO _ _ _ _ _ (⟨_, some _, _⟩ :: _) _; first | refine go_in (hk := ?_) | refine go_out (hk := ?_) | refine go_void (hk := ?_)) | (show GK _ _ _ _ (blockK _ _ _); refine gk_past rfl ?_) | (show GC _ _ _ _ _ (.cond _ _ _) _; first | refine gc_yes (h1 := ?_) | refine gc_no (h1 := ?_))))
  refine go_split 42 rfl (fun hc => absurd rfl hc) (fun _ => ?_)
  (repeat (first | refine gst (hk := ?_) | (show GO _ _ _ _ _ (⟨some _, none, .call _ _⟩ :: _) _; first | (show GO _ _ _ _ _ (⟨some _, none, .call fn_laws_toIntS _⟩ :: _) _; refine go_toIntS (hk := ?_); try intro u) | (show GO _ _ _ _ _ (⟨some _, none, .call fn_laws_eqIntS _⟩ :: _) _; refine go_eqIntS (hk := ?_); try intro u) | (refine go_callp rfl code_spec_PeakOf.callable (fun H hH => specPeakOf_t (hH.ints (by exact Has.auto)) (hH.ints (by exact Has.auto)) (by omega) (by omega)) ?_) | (refine go_callp rfl code_impl_PeakOf.callable (fun H hH => implPeakOf_t (hH.ints (by exact Has.auto)) (hH.ints (by exact Has.auto)) (by omega) (by omega)) ?_) | (refine go_callp rfl code_laws_eqFrac.callable (fun H hH => eqFrac_ok) ?_)) | (show GO _ _ _ _ _ (⟨some _, none, _⟩ :: _) _; first | refine go_op (hk := ?_) | (refine go_nw (hk := ?_); intro u; try simp only [llc, lln, lna, lza]) | (refine go_np (hk := ?_); intro id)) | (show GO _ _ _ _ _ (⟨none, none, _⟩ :: _) _; refine go_st (hk := ?_)) | (show GO _ _ _ _ _ (⟨_, some _, _⟩ :: _) _; first | refine go_in (hk := ?_) | refine go_out (hk := ?_) | refine go_void (hk := ?_)) | (show GK _ _ _ _ (blockK _ _ _); refine gk_past rfl ?_) | (show GC _ _ _ _ _ (.cond _ _ _) _; first | refine gc_yes (h1 := ?_) | refine gc_no (h1 := ?_))))
  refine go_split 48 rfl (fun hc => absurd ⟨rfl, rfl⟩ hc) (fun _ => ?_)
  (repeat (first | refine gst (hk := ?_) | (show GO _ _ _ _ _ (⟨some _, none, .call _ _⟩ :: _) _; first | (show GO _ _ _ _ _ (⟨some _, none, .call fn_laws_toIntS _⟩ :: _) _; refine go_toIntS (hk := ?_); try intro u) | (show GO _ _ _ _ _ (⟨some _, none, .call fn_laws_eqIntS _⟩ :: _) _; refine go_eqIntS (hk := ?_); try intro u) | (refine go_callp rfl code_spec_PeakOf.callable (fun H hH => specPeakOf_t (hH.ints (by exact Has.auto)) (hH.ints (by exact Has.auto)) (by omega) (by omega)) ?_) | (refine go_callp rfl code_impl_PeakOf.callable (fun H hH => implPeakOf_t (hH.ints (by exact Has.auto)) (hH.ints (by exact Has.auto)) (by omega) (by omega)) ?_) | (refine go_callp rfl code_laws_eqFrac.callable (fun H hH => eqFrac_ok) ?_)) | (show GO _ _ _ _ _ (⟨some _, none, _⟩ :: _) _; first | refine go_op (hk := ?_) | (refine go_nw (hk := ?_); intro u; try simp only [llc, lln, lna, lza]) | (refine go_np (hk := ?_); intro id)) | (show GO _ _ _ _ _ (⟨none, none, _⟩ :: _) _; refine go_st (hk := ?_)) | (show GO _ _ _ _ _ (⟨_, some _, _⟩ :: _) _; first | refine go_in (hk := ?_) | refine go_out (hk := ?_) | refine go_void (hk := ?_)) | (show GK _ _ _ _ (blockK _ _ _); refine gk_past rfl ?_) | (show GC _ _ _ _ _ (.cond _ _ _) _; first | refine gc_yes (h1 := ?_) | refine gc_no (h1 := ?_))))
  refine gc_cond rfl (fun hc => absurd Iff.rfl hc) (fun _ => ?_)
  (repeat (first | refine gst (hk := ?_) | (show GO _ _ _ _ _ (⟨some _, none, .call _ _⟩ :: _) _; first | (show GO _ _ _ _ _ (⟨some _, none, .call fn_laws_toIntS _⟩ :: _) _; refine go_toIntS (hk := ?_); try intro u) | (show GO _ _ _ _ _ (⟨some _, none, .call fn_laws_eqIntS _⟩ :: _) _; refine go_eqIntS (hk := ?_); try intro u) | (refine go_callp rfl code_spec_PeakOf.callable (fun H hH => specPeakOf_t (hH.ints (by exact Has.auto)) (hH.ints (by exact Has.auto)) (by omega) (by omega)) ?_) | (refine go_callp rfl code_impl_PeakOf.callable (fun H hH => implPeakOf_t (hH.ints (by exact Has.auto)) (hH.ints (by exact Has.auto)) (by omega) (by omega)) ?_) | (refine go_callp rfl code_laws_eqFrac.callable (fun H hH => eqFrac_ok) ?_)) | (show GO _ _ _ _ _ (⟨some _, none, _⟩ :: _) _; first | refine go_op (hk := ?_) | (refine go_nw (hk := ?_); intro u; try simp only [llc, lln, lna, lza]) | (refine go_np (hk := ?_); intro id)) | (show GO _ _ _ _ _ (⟨none, none, _⟩ :: _) _; refine go_st (hk := ?_)) | (show GO _ _ _ _ _ (⟨_, some _, _⟩ :: _) _; first | refine go_in (hk := ?_) | refine go_out (hk := ?_) | refine go_void (hk := ?_)) | (show GK _ _ _ _ (blockK _ _ _); refine gk_past rfl ?_) | (show GC _ _ _ _ _ (.cond _ _ _) _; first | refine gc_yes (h1 := ?_) | refine gc_no (h1 := ?_))))
  refine gc_cond rfl (fun hc => absurd rfl hc) (fun _ => ?_)
  (repeat (first | refine gst (hk := ?_) | (show GO _ _ _ _ _ (⟨some _, none, .call _ _⟩ :: _) _; first | (show GO _ _ _ _ _ (⟨some _, none, .call fn_laws_toIntS _⟩ :: _) _; refine go_toIntS (hk := ?_); try intro u) | (show GO _ _ _ _ _ (⟨some _, none, .call fn_laws_eqIntS _⟩ :: _) _; refine go_eqIntS (hk := ?_); try intro u) | (refine go_callp rfl code_spec_PeakOf.callable (fun H hH => specPeakOf_t (hH.ints (by exact Has.auto)) (hH.ints (by exact Has.auto)) (by omega) (by omega)) ?_) | (refine go_callp rfl code_impl_PeakOf.callable (fun H hH => implPeakOf_t (hH.ints (by exact Has.auto)) (hH.ints (by exact Has.auto)) (by omega) (by omega)) ?_) | (refine go_callp rfl code_laws_eqFrac.callable (fun H hH => eqFrac_ok) ?_)) | (show GO _ _ _ _ _ (⟨some _, none, _⟩ :: _) _; first | refine go_op (hk := ?_) | (refine go_nw (hk := ?_); intro u; try simp only [llc, lln, lna, lza]) | (refine go_np (hk := ?_); intro id)) | (show GO _ _ _ _ _ (⟨none, none, _⟩ :: _) _; refine go_st (hk := ?_)) | (show GO _ _ _ _ _ (⟨_, some _, _⟩ :: _) _; first | refine go_in (hk := ?_) | refine go_out (hk := ?_) | refine go_void (hk := ?_)) | (show GK _ _ _ _ (blockK _ _ _); refine gk_past rfl ?_) | (show GC _ _ _ _ _ (.cond _ _ _) _; first | refine gc_yes (h1 := ?_) | refine gc_no (h1 := ?_))))
  refine gc_cond rfl (fun hc => absurd rfl hc) (fun _ => ?_)
  (repeat (first | refine gst (hk := ?_) | (show GO _ _ _ _ _ (⟨some _, none, .call _ _⟩ :: _) _; first | (show GO _ _ _ _ _ (⟨some _, none, .call fn_laws_toIntS _⟩ :: _) _; refine go_toIntS (hk := ?_); try intro u) | (show GO _ _ _ _ _ (⟨some _, none, .call fn_laws_eqIntS _⟩ :: _) _; refine go_eqIntS (hk := ?_); try intro u) | (refine go_callp rfl code_spec_PeakOf.callable (fun H hH => specPeakOf_t (hH.ints (by exact Has.auto)) (hH.ints (by exact Has.auto)) (by omega) (by omega)) ?_) | (refine go_callp rfl code_impl_PeakOf.callable (fun H hH => implPeakOf_t (hH.ints (by exact Has.auto)) (hH.ints (by exact Has.auto)) (by omega) (by omega)) ?_) | (refine go_callp rfl code_laws_eqFrac.callable (fun H hH => eqFrac_ok) ?_)) | (show GO _ _ _ _ _ (⟨some _, none, _⟩ :: _) _; first | refine go_op (hk := ?_) | (refine go_nw (hk := ?_); intro u; try simp only [llc, lln, lna, lza]) | (refine go_np (hk := ?_); intro id)) | (show GO _ _ _ _ _ (⟨none, none, _⟩ :: _) _; refine go_st (hk := ?_)) | (show GO _ _ _ _ _ (⟨_, some _, _⟩ :: _) _; first | refine go_in (hk := ?_) | refine go_out (hk := ?_) | refine go_void (hk := ?_)) | (show GK _ _ _ _ (blockK _ _ _); refine gk_past rfl ?_) | (show GC _ _ _ _ _ (.cond _ _ _) _; first | refine gc_yes (h1 := ?_) | refine gc_no (h1 := ?_))))
  exact gk_ret rfl fun H' hH => rfl

structure Cst {α : Type} (op : α → α → α) (le : α → α → Prop) : Prop where
  assoc : ∀ a b c, op (op a b) c = op a (op b c)
  comm : ∀ a b, op a b = op b a
  mono : ∀ {a b} c, le a b → le (op a c) (op b c)
  refl : ∀ a, le a a
  trans : ∀ {a b c}, le a b → le b c → le a c
  anti : ∀ {a b}, le a b → le b a → a = b

inductive Cuts {α : Type} (op : α → α → α) (c : Nat → Nat → α) : Nat → Nat → Nat → α → Prop
  | one {i k : Nat} (h : i < k) : Cuts op c 1 i k (c i k)
  | snoc {p i m k : Nat} {v : α} (h : Cuts op c p i m v) (hk : m < k) : Cuts op c (p + 1) i k (op v (c m k))

theorem Cuts.lt {α : Type} {op : α → α → α} {c : Nat → Nat → α} {p i k : Nat} {v : α} (h : Cuts op c p i k v) : i < k ∧ 1 ≤ p ∧ i + p ≤ k := by
  induction h with
  | one h => omega
  | snoc h hk ih => omega

theorem Cuts.cons {α : Type} {op : α → α → α} {le : α → α → Prop} (hc : Cst op le) {c : Nat → Nat → α} {p i m k : Nat} {v : α} (hi : i < m) (h : Cuts op c p m k v) : Cuts op c (p + 1) i k (op (c i m) v) := by
  induction h with
  | one h => exact .snoc (.one hi) h
  | snoc h hk ih => rw [← hc.assoc]; exact .snoc (ih hi) hk

def LeastC {α : Type} (op : α → α → α) (le : α → α → Prop) (c : Nat → Nat → α) (P i k : Nat) (v : α) : Prop := (∃ q, q ≤ P ∧ Cuts op c q i k v) ∧ ∀ q w, q ≤ P → Cuts op c q i k w → le v w

theorem LeastC.uniq {α : Type} {op : α → α → α} {le : α → α → Prop} (hc : Cst op le) {c : Nat → Nat → α} {P i k : Nat} {v w : α} (h : LeastC op le c P i k v) (h' : LeastC op le c P i k w) : v = w := by
  obtain ⟨⟨q, h1, h2⟩, h3⟩ := h
  obtain ⟨⟨q', h1', h2'⟩, h3'⟩ := h'
  exact hc.anti (h3 _ _ h1' h2') (h3' _ _ h1 h2)

theorem LeastC.pos {α : Type} {op : α → α → α} {le : α → α → Prop} {c : Nat → Nat → α} {P i k : Nat} {v : α} (h : LeastC op le c P i k v) : 1 ≤ P ∧ i < k := by
  obtain ⟨⟨q, h1, h2⟩, _⟩ := h
  have := h2.lt
  omega

theorem LeastC.congr {α : Type} {op : α → α → α} {le : α → α → Prop} {c d : Nat → Nat → α} {n P : Nat} (hd : ∀ i k, i < k → k ≤ n → d i k = c i k) {v : α} (h : LeastC op le d P 0 n v) : LeastC op le c P 0 n v := by
  have key : ∀ {c d : Nat → Nat → α}, (∀ i k, i < k → k ≤ n → d i k = c i k) → ∀ {p i k : Nat} {v : α}, Cuts op d p i k v → k ≤ n → Cuts op c p i k v := by
    intro c d hd p i k v h
    induction h with
    | one h => intro hk; rw [hd _ _ h hk]; exact .one h
    | snoc h hmk ih => intro hk; rw [hd _ _ hmk hk]; exact .snoc (ih (by omega)) hmk
  obtain ⟨⟨q, h1, h2⟩, h3⟩ := h
  exact ⟨⟨q, h1, key hd h2 (Nat.le_refl _)⟩, fun q w hq hw => h3 q w hq (key (fun i k h1 h2 => (hd i k h1 h2).symm) hw (Nat.le_refl _))⟩

theorem Steps.back {xs : List Int} (h : Steps xs) : Steps xs.reverse := ⟨fun x hx => h.1 x (List.mem_reverse.1 hx), by simpa using h.2.1, by simpa using h.2.2⟩

theorem Steps.neg {xs : List Int} (h : Steps xs) : Steps (negL xs) := ⟨fun x hx => by
  unfold negL at hx
  obtain ⟨y, hy, rfl⟩ := List.mem_map.1 hx
  have := h.1 y hy
  omega, by rw [negL_length]; exact h.2.1, by rw [negL_length]; exact h.2.2⟩

def MpO (ob : Nat → Option OB) (id : Nat) (es : List ME) (clk : Nat) : Prop := ∃ o, ob id = some o ∧ o.mo = some (.map es clk)

def seo (ob : Nat → Option OB) (id : Nat) (o : OB) : Nat → Option OB := fun i => if i = id then some o else ob i

theorem mp_other {ob : Nat → Option OB} {id j : Nat} {es : List ME} {clk : Nat} {o : OB} (h : MpO ob j es clk) (hn : j ≠ id) : MpO (seo ob id o) j es clk := by
  obtain ⟨x, h1, h2⟩ := h
  exact ⟨x, by simp only [seo]; rw [if_neg hn]; exact h1, h2⟩

/-- what was there is there, but for some -/
def ExO (ob0 ob : Nat → Option OB) (I : List Nat) : Prop := ∀ j o, j ∉ I → ob0 j = some o → ob j = some o

theorem ExO.refl (ob : Nat → Option OB) (I : List Nat) : ExO ob ob I := fun _ _ _ h => h

theorem ExO.new {ob0 ob : Nat → Option OB} {I : List Nat} (h : ExO ob0 ob I) {id : Nat} (hn : ob id = none) (o : OB) : ExO ob0 (seo ob id o) I := fun j p h1 h2 => by
  have h3 := h j p h1 h2
  have : j ≠ id := by rintro rfl; rw [hn] at h3; cases h3
  simp only [seo]; rw [if_neg this]; exact h3

theorem ExO.mod {ob0 ob : Nat → Option OB} {I : List Nat} (h : ExO ob0 ob I) {id : Nat} (hn : ob0 id = none ∨ id ∈ I) (o : OB) : ExO ob0 (seo ob id o) I := fun j p h1 h2 => by
  have : j ≠ id := by
    rintro rfl
    rcases hn with hn | hn
    · rw [hn] at h2; cases h2
    · exact h1 hn
  simp only [seo]; rw [if_neg this]; exact h j p h1 h2

structure CE where
  p : Nat
  v : Rat
  b : Nat

def ceM (e : CE) : ME := ⟨.int .i64 (e.p : Int), frV e.v, e.b⟩

def CutsOk (L : List CE) (clk : Nat) : Prop := (L.map CE.b).Nodup ∧ (∀ e ∈ L, e.b < clk) ∧ (L.map CE.p).Nodup

theorem CutsOk.sub {L M : List CE} {clk : Nat} (h : CutsOk L clk) (hs : M.Sublist L) : CutsOk M clk := ⟨(hs.map _).nodup h.1, fun e he => h.2.1 e (hs.subset he), (hs.map _).nodup h.2.2⟩

/-- the stamps that have come -/
def GoneC (L : List CE) (seen : List Nat) : Prop := seen.Nodup ∧ ∀ b ∈ seen, b ∈ L.map CE.b

theorem GoneC.nil (L : List CE) : GoneC L [] := ⟨List.nodup_nil, by simp⟩

theorem GoneC.le {L : List CE} {seen : List Nat} (h : GoneC L seen) : seen.length ≤ L.length := by
  have := h.1.length_le_of_subset (fun b hb => h.2 b hb : seen ⊆ L.map CE.b)
  rwa [List.length_map] at this

theorem GoneC.snoc {L : List CE} {seen : List Nat} (h : GoneC L seen) {e : CE} (he : e ∈ L) (hn : e.b ∉ seen) : GoneC L (seen ++ [e.b]) := by
  refine ⟨?_, fun b hb => ?_⟩
  · rw [List.nodup_append]
    exact ⟨h.1, by simp, fun a ha b hb => by simp only [List.mem_singleton] at hb; subst hb; exact fun h => hn (h ▸ ha)⟩
  · rcases List.mem_append.1 hb with hb | hb
    · exact h.2 b hb
    · simp only [List.mem_singleton] at hb; subst hb; exact List.mem_map.2 ⟨e, he, rfl⟩

theorem GoneC.lt {L : List CE} {seen : List Nat} (h : GoneC L seen) {e : CE} (he : e ∈ L) (hn : e.b ∉ seen) : L.length - (seen ++ [e.b]).length < L.length - seen.length := by
  have := (h.snoc he hn).le
  rw [List.length_append, List.length_singleton] at this ⊢
  omega

/-- the ways that are not beaten, of some -/
def FrontC (L : List CE) (S : Nat → Rat → Prop) : Prop := (∀ e ∈ L, S e.p e.v) ∧ (∀ p v, S p v → ∃ e ∈ L, e.p ≤ p ∧ e.v ≤ v) ∧ ∀ e ∈ L, ∀ e' ∈ L, e.p < e'.p → e'.v < e.v

def SC (c : Nat → Nat → Rat) (i q : Nat) (v : Rat) : Prop := (i = 0 ∧ q = 0 ∧ v = 0) ∨ Cuts (· + ·) c q 0 i v

theorem FrontC.weaken {L : List CE} {S S' : Nat → Rat → Prop} (h : FrontC L S) (h1 : ∀ q v, S q v → S' q v) (h2 : ∀ q v, S' q v → ∃ q0 v0, S q0 v0 ∧ q0 ≤ q ∧ v0 ≤ v) : FrontC L S' := by
  obtain ⟨g1, g2, g3⟩ := h
  refine ⟨fun e he => h1 _ _ (g1 e he), fun q v hq => ?_, g3⟩
  obtain ⟨q0, v0, k1, k2, k3⟩ := h2 q v hq
  obtain ⟨e, m1, m2, m3⟩ := g2 q0 v0 k1
  exact ⟨e, m1, by omega, Rat.le_trans m3 k3⟩

theorem FrontC.same {L : List CE} {S S' : Nat → Rat → Prop} (h : FrontC L S) (h1 : ∀ q v, S q v ↔ S' q v) : FrontC L S' := h.weaken (fun q v => (h1 q v).1) (fun q v hq => ⟨q, v, (h1 q v).2 hq, Nat.le_refl _, Rat.le_refl⟩)

def GoodM (c : Nat → Nat → Rat) (ob : Nat → Option OB) (m i : Nat) : Prop := ∃ L clk, MpO ob m (L.map ceM) clk ∧ CutsOk L clk ∧ FrontC L (SC c i)

theorem GoodM.seo {c : Nat → Nat → Rat} {ob : Nat → Option OB} {m i id : Nat} {o : OB} (h : GoodM c ob m i) (hn : m ≠ id) : GoodM c (seo ob id o) m i := by
  obtain ⟨L, clk, h1, h2⟩ := h
  exact ⟨L, clk, mp_other h1 hn, h2⟩

def SmP (xs : List Int) (i d : Nat) : Prop := ∀ t, i ≤ t → t < i + d → nth xs t = nth xs i

noncomputable instance (xs : List Int) (i d : Nat) : Decidable (SmP xs i d) := Classical.propDecidable _

theorem SmP.succ {xs : List Int} {i d : Nat} : SmP xs i (d + 1) ↔ SmP xs i d ∧ nth xs (i + d) = nth xs i := by
  constructor
  · exact fun h => ⟨fun t h1 h2 => h t h1 (by omega), h (i + d) (by omega) (by omega)⟩
  · rintro ⟨h1, h2⟩ t h3 h4
    rcases Nat.lt_or_ge t (i + d) with h5 | h5
    · exact h1 t h3 h5
    · rw [show t = i + d by omega]; exact h2

end Go.Rx.Try
