import Derived.Test.YtophpmdlgphihakFnRiseByBlocksD6
namespace Go.Rx.Try
open Go.Proofs
set_option maxRecDepth 100000
set_option maxHeartbeats 8000000
set_option linter.unusedSimpArgs false
set_option linter.unusedVariables false

theorem implRiseByMeans_ok {H : Heap} {a b : AV} {xs ws : List Int} (ha : Ints H a xs) (hb : Ints H b ws) (hl : xs.length ≤ 1000000000) (hl' : ws.length ≤ 1000000000) :
    ACalls Try.prog fn_impl_RiseByMeans [a, b] H fun r H' => Own H H' r 2 (riO xs ws).length (frs (riO xs ws)) ∧ Le H H' := by
  refine code_impl_RiseByMeans.go [.roI a xs.length xs, .roI b ws.length ws] ⟨⟨rfl, ha⟩, ⟨rfl, hb⟩, trivial⟩ (by simp) ?_
  unfold mc_impl_RiseByMeans
  (repeat (first | refine gst (hk := ?_) | (show GO _ _ _ _ _ (⟨some _, none, .call _ _⟩ :: _) _; first | (refine go_callp rfl code_impl_ValidLoads.callable (fun H hH => implValidLoads_ok (hH.ints (by exact Has.auto)) (hH.ints (by exact Has.auto)) (by omega) (by omega)) ?_)) | (show GO _ _ _ _ _ (⟨some _, none, _⟩ :: _) _; first | refine go_op (hk := ?_) | (refine go_nw (hk := ?_); intro u; try simp only [llc, lln, lna, lza]) | (refine go_np (hk := ?_); intro id)) | (show GR _ _ _ _ _ _ (⟨some _, none, _⟩ :: _) _; refine gr_op (hk := ?_)) | (show GO _ _ _ _ _ (⟨none, none, _⟩ :: _) _; refine go_st (hk := ?_)) | (show GR _ _ _ _ _ _ (⟨none, none, _⟩ :: _) _; refine gr_st (hk := ?_)) | (show GO _ _ _ _ _ (⟨_, some _, _⟩ :: _) _; first | refine go_in (hk := ?_) | refine go_out (hk := ?_) | refine go_void (hk := ?_)) | (show GK _ _ _ _ (blockK _ _ _); refine gk_past rfl ?_) | (show GC _ _ _ _ _ (.cond _ _ _) _; first | refine gc_yes (h1 := ?_) | refine gc_no (h1 := ?_))))
  refine gc_cond rfl (fun h => ?_) (fun h => ?_)
  · (repeat (first | refine gst (hk := ?_) | (show GO _ _ _ _ _ (⟨some _, none, .call _ _⟩ :: _) _; first | (refine go_callp rfl code_impl_ValidLoads.callable (fun H hH => implValidLoads_ok (hH.ints (by exact Has.auto)) (hH.ints (by exact Has.auto)) (by omega) (by omega)) ?_)) | (show GO _ _ _ _ _ (⟨some _, none, _⟩ :: _) _; first | refine go_op (hk := ?_) | (refine go_nw (hk := ?_); intro u; try simp only [llc, lln, lna, lza]) | (refine go_np (hk := ?_); intro id)) | (show GR _ _ _ _ _ _ (⟨some _, none, _⟩ :: _) _; refine gr_op (hk := ?_)) | (show GO _ _ _ _ _ (⟨none, none, _⟩ :: _) _; refine go_st (hk := ?_)) | (show GR _ _ _ _ _ _ (⟨none, none, _⟩ :: _) _; refine gr_st (hk := ?_)) | (show GO _ _ _ _ _ (⟨_, some _, _⟩ :: _) _; first | refine go_in (hk := ?_) | refine go_out (hk := ?_) | refine go_void (hk := ?_)) | (show GK _ _ _ _ (blockK _ _ _); refine gk_past rfl ?_) | (show GC _ _ _ _ _ (.cond _ _ _) _; first | refine gc_yes (h1 := ?_) | refine gc_no (h1 := ?_))))
    refine gk_ret rfl fun H' hH => ⟨?_, hH.leE⟩
    unfold riO; rw [if_neg h]
    exact Own.nil _ _ _
  have hL := Decidable.not_not.1 h
  rw [(riO_len hL).2, (riO_len hL).1]
  have hn := hL.2.2.2.2
  have hpl := ptL_len xs ws
  (repeat (first | refine gst (hk := ?_) | (show GO _ _ _ _ _ (⟨some _, none, .call _ _⟩ :: _) _; first | (refine go_callp rfl code_impl_ValidLoads.callable (fun H hH => implValidLoads_ok (hH.ints (by exact Has.auto)) (hH.ints (by exact Has.auto)) (by omega) (by omega)) ?_)) | (show GO _ _ _ _ _ (⟨some _, none, _⟩ :: _) _; first | refine go_op (hk := ?_) | (refine go_nw (hk := ?_); intro u; try simp only [llc, lln, lna, lza]) | (refine go_np (hk := ?_); intro id)) | (show GR _ _ _ _ _ _ (⟨some _, none, _⟩ :: _) _; refine gr_op (hk := ?_)) | (show GO _ _ _ _ _ (⟨none, none, _⟩ :: _) _; refine go_st (hk := ?_)) | (show GR _ _ _ _ _ _ (⟨none, none, _⟩ :: _) _; refine gr_st (hk := ?_)) | (show GO _ _ _ _ _ (⟨_, some _, _⟩ :: _) _; first | refine go_in (hk := ?_) | refine go_out (hk := ?_) | refine go_void (hk := ?_)) | (show GK _ _ _ _ (blockK _ _ _); refine gk_past rfl ?_) | (show GC _ _ _ _ _ (.cond _ _ _) _; first | refine gc_yes (h1 := ?_) | refine gc_no (h1 := ?_))))
  refine go_calln rfl code_impl_loadsOf.callable (fun H hH => loadsOf_ok (hH.ints (by exact Has.auto)) (hH.ints (by exact Has.auto)) hL.2.2.1 (by omega)) ?_
  intro u
  (repeat (first | refine gst (hk := ?_) | (show GO _ _ _ _ _ (⟨some _, none, .call _ _⟩ :: _) _; first | (refine go_callp rfl code_impl_ValidLoads.callable (fun H hH => implValidLoads_ok (hH.ints (by exact Has.auto)) (hH.ints (by exact Has.auto)) (by omega) (by omega)) ?_)) | (show GO _ _ _ _ _ (⟨some _, none, _⟩ :: _) _; first | refine go_op (hk := ?_) | (refine go_nw (hk := ?_); intro u; try simp only [llc, lln, lna, lza]) | (refine go_np (hk := ?_); intro id)) | (show GR _ _ _ _ _ _ (⟨some _, none, _⟩ :: _) _; refine gr_op (hk := ?_)) | (show GO _ _ _ _ _ (⟨none, none, _⟩ :: _) _; refine go_st (hk := ?_)) | (show GR _ _ _ _ _ _ (⟨none, none, _⟩ :: _) _; refine gr_st (hk := ?_)) | (show GO _ _ _ _ _ (⟨_, some _, _⟩ :: _) _; first | refine go_in (hk := ?_) | refine go_out (hk := ?_) | refine go_void (hk := ?_)) | (show GK _ _ _ _ (blockK _ _ _); refine gk_past rfl ?_) | (show GC _ _ _ _ _ (.cond _ _ _) _; first | refine gc_yes (h1 := ?_) | refine gc_no (h1 := ?_))))
  refine go_new rfl (stp_mkK cels_fo none xs.length rfl rfl rfl rfl (by omega) (by omega)) ?_
  intro r
  (repeat (first | refine gst (hk := ?_) | (show GO _ _ _ _ _ (⟨some _, none, .call _ _⟩ :: _) _; first | (refine go_callp rfl code_impl_ValidLoads.callable (fun H hH => implValidLoads_ok (hH.ints (by exact Has.auto)) (hH.ints (by exact Has.auto)) (by omega) (by omega)) ?_)) | (show GO _ _ _ _ _ (⟨some _, none, _⟩ :: _) _; first | refine go_op (hk := ?_) | (refine go_nw (hk := ?_); intro u; try simp only [llc, lln, lna, lza]) | (refine go_np (hk := ?_); intro id)) | (show GR _ _ _ _ _ _ (⟨some _, none, _⟩ :: _) _; refine gr_op (hk := ?_)) | (show GO _ _ _ _ _ (⟨none, none, _⟩ :: _) _; refine go_st (hk := ?_)) | (show GR _ _ _ _ _ _ (⟨none, none, _⟩ :: _) _; refine gr_st (hk := ?_)) | (show GO _ _ _ _ _ (⟨_, some _, _⟩ :: _) _; first | refine go_in (hk := ?_) | refine go_out (hk := ?_) | refine go_void (hk := ?_)) | (show GK _ _ _ _ (blockK _ _ _); refine gk_past rfl ?_) | (show GC _ _ _ _ _ (.cond _ _ _) _; first | refine gc_yes (h1 := ?_) | refine gc_no (h1 := ?_))))
  rw [tabS_rep, tabS_congr (g := fun k => if k < 0 then some (fiR xs ws k) else none) (fun k _ => by rw [if_neg (by omega)])]
  refine gc_up xs.length (fun j => [(5, u), (6, r), (21, .int .i64 (xs.length : Int)), (22, .int .i64 (j : Int))]) (fun j => [⟨.rw, r, 2, xs.length, cellsK foC (tabS xs.length fun k => if k < j then some (fiR xs ws k) else none)⟩, rwP u xs.length (ptL xs ws), .roI a xs.length xs, .roI b ws.length ws]) (hb := ?_)
  intro j hj I ν m hk
  (repeat (first | refine gst (hk := ?_) | (show GO _ _ _ _ _ (⟨some _, none, .call _ _⟩ :: _) _; first | (refine go_callp rfl code_impl_ValidLoads.callable (fun H hH => implValidLoads_ok (hH.ints (by exact Has.auto)) (hH.ints (by exact Has.auto)) (by omega) (by omega)) ?_)) | (show GO _ _ _ _ _ (⟨some _, none, _⟩ :: _) _; first | refine go_op (hk := ?_) | (refine go_nw (hk := ?_); intro u; try simp only [llc, lln, lna, lza]) | (refine go_np (hk := ?_); intro id)) | (show GR _ _ _ _ _ _ (⟨some _, none, _⟩ :: _) _; refine gr_op (hk := ?_)) | (show GO _ _ _ _ _ (⟨none, none, _⟩ :: _) _; refine go_st (hk := ?_)) | (show GR _ _ _ _ _ _ (⟨none, none, _⟩ :: _) _; refine gr_st (hk := ?_)) | (show GO _ _ _ _ _ (⟨_, some _, _⟩ :: _) _; first | refine go_in (hk := ?_) | refine go_out (hk := ?_) | refine go_void (hk := ?_)) | (show GK _ _ _ _ (blockK _ _ _); refine gk_past rfl ?_) | (show GC _ _ _ _ _ (.cond _ _ _) _; first | refine gc_yes (h1 := ?_) | refine gc_no (h1 := ?_))))
  refine gc_cond rfl (fun h1 => ?_) (fun h1 => ?_)
  · have hk := hk (by omega)
    (repeat (first | refine gst (hk := ?_) | (show GO _ _ _ _ _ (⟨some _, none, .call _ _⟩ :: _) _; first | (refine go_callp rfl code_impl_ValidLoads.callable (fun H hH => implValidLoads_ok (hH.ints (by exact Has.auto)) (hH.ints (by exact Has.auto)) (by omega) (by omega)) ?_)) | (show GO _ _ _ _ _ (⟨some _, none, _⟩ :: _) _; first | refine go_op (hk := ?_) | (refine go_nw (hk := ?_); intro u; try simp only [llc, lln, lna, lza]) | (refine go_np (hk := ?_); intro id)) | (show GR _ _ _ _ _ _ (⟨some _, none, _⟩ :: _) _; refine gr_op (hk := ?_)) | (show GO _ _ _ _ _ (⟨none, none, _⟩ :: _) _; refine go_st (hk := ?_)) | (show GR _ _ _ _ _ _ (⟨none, none, _⟩ :: _) _; refine gr_st (hk := ?_)) | (show GO _ _ _ _ _ (⟨_, some _, _⟩ :: _) _; first | refine go_in (hk := ?_) | refine go_out (hk := ?_) | refine go_void (hk := ?_)) | (show GK _ _ _ _ (blockK _ _ _); refine gk_past rfl ?_) | (show GC _ _ _ _ _ (.cond _ _ _) _; first | refine gc_yes (h1 := ?_) | refine gc_no (h1 := ?_))))
    refine gc_nilK 2 ?_
    refine gc_upv (j + 1) (fun i p => [(5, u), (6, r), (7, .int .i64 (j : Int)), (8, p), (21, .int .i64 (xs.length : Int)), (22, .int .i64 (j : Int)), (26, .int .i64 ((j + 1 : Nat) : Int)), (27, .int .i64 (i : Int))]) (fun i p => [rwF p i (fwL (gmF xs ws j) i), ⟨.rw, r, 2, xs.length, cellsK foC (tabS xs.length fun k => if k < j then some (fiR xs ws k) else none)⟩, rwP u xs.length (ptL xs ws), .roI a xs.length xs, .roI b ws.length ws]) .nilSlice (hb := ?_)
    intro i p hi I2 ν2 m2 hk2
    have hfl := fwL_len (gmF xs ws j) i
    (repeat (first | refine gst (hk := ?_) | (show GO _ _ _ _ _ (⟨some _, none, .call _ _⟩ :: _) _; first | (refine go_callp rfl code_impl_ValidLoads.callable (fun H hH => implValidLoads_ok (hH.ints (by exact Has.auto)) (hH.ints (by exact Has.auto)) (by omega) (by omega)) ?_)) | (show GO _ _ _ _ _ (⟨some _, none, _⟩ :: _) _; first | refine go_op (hk := ?_) | (refine go_nw (hk := ?_); intro u; try simp only [llc, lln, lna, lza]) | (refine go_np (hk := ?_); intro id)) | (show GR _ _ _ _ _ _ (⟨some _, none, _⟩ :: _) _; refine gr_op (hk := ?_)) | (show GO _ _ _ _ _ (⟨none, none, _⟩ :: _) _; refine go_st (hk := ?_)) | (show GR _ _ _ _ _ _ (⟨none, none, _⟩ :: _) _; refine gr_st (hk := ?_)) | (show GO _ _ _ _ _ (⟨_, some _, _⟩ :: _) _; first | refine go_in (hk := ?_) | refine go_out (hk := ?_) | refine go_void (hk := ?_)) | (show GK _ _ _ _ (blockK _ _ _); refine gk_past rfl ?_) | (show GC _ _ _ _ _ (.cond _ _ _) _; first | refine gc_yes (h1 := ?_) | refine gc_no (h1 := ?_))))
    refine gc_cond rfl (fun h2 => ?_) (fun h2 => ?_)
    · have hk2 := hk2 (by omega)
      (repeat (first | refine gst (hk := ?_) | (show GO _ _ _ _ _ (⟨some _, none, .call _ _⟩ :: _) _; first | (refine go_callp rfl code_impl_ValidLoads.callable (fun H hH => implValidLoads_ok (hH.ints (by exact Has.auto)) (hH.ints (by exact Has.auto)) (by omega) (by omega)) ?_)) | (show GO _ _ _ _ _ (⟨some _, none, _⟩ :: _) _; first | refine go_op (hk := ?_) | (refine go_nw (hk := ?_); intro u; try simp only [llc, lln, lna, lza]) | (refine go_np (hk := ?_); intro id)) | (show GR _ _ _ _ _ _ (⟨some _, none, _⟩ :: _) _; refine gr_op (hk := ?_)) | (show GO _ _ _ _ _ (⟨none, none, _⟩ :: _) _; refine go_st (hk := ?_)) | (show GR _ _ _ _ _ _ (⟨none, none, _⟩ :: _) _; refine gr_st (hk := ?_)) | (show GO _ _ _ _ _ (⟨_, some _, _⟩ :: _) _; first | refine go_in (hk := ?_) | refine go_out (hk := ?_) | refine go_void (hk := ?_)) | (show GK _ _ _ _ (blockK _ _ _); refine gk_past rfl ?_) | (show GC _ _ _ _ _ (.cond _ _ _) _; first | refine gc_yes (h1 := ?_) | refine gc_no (h1 := ?_))))
      refine go_callp rfl code_impl_leastMean.callable (fun H hH => leastMean_ok (hH.valsA (by exact Has.auto)) hL (by omega) (by omega)) ?_
      refine go_new rfl (stp_bslF rfl) ?_
      intro u1
      refine go_new rfl (stp_appF (M := [gmF xs ws j i]) rfl rfl (by exact Sel.auto) (by exact Has.auto) (by omega)) ?_
      intro u2
      (repeat (first | refine gst (hk := ?_) | (show GO _ _ _ _ _ (⟨some _, none, .call _ _⟩ :: _) _; first | (refine go_callp rfl code_impl_ValidLoads.callable (fun H hH => implValidLoads_ok (hH.ints (by exact Has.auto)) (hH.ints (by exact Has.auto)) (by omega) (by omega)) ?_)) | (show GO _ _ _ _ _ (⟨some _, none, _⟩ :: _) _; first | refine go_op (hk := ?_) | (refine go_nw (hk := ?_); intro u; try simp only [llc, lln, lna, lza]) | (refine go_np (hk := ?_); intro id)) | (show GR _ _ _ _ _ _ (⟨some _, none, _⟩ :: _) _; refine gr_op (hk := ?_)) | (show GO _ _ _ _ _ (⟨none, none, _⟩ :: _) _; refine go_st (hk := ?_)) | (show GR _ _ _ _ _ _ (⟨none, none, _⟩ :: _) _; refine gr_st (hk := ?_)) | (show GO _ _ _ _ _ (⟨_, some _, _⟩ :: _) _; first | refine go_in (hk := ?_) | refine go_out (hk := ?_) | refine go_void (hk := ?_)) | (show GK _ _ _ _ (blockK _ _ _); refine gk_past rfl ?_) | (show GC _ _ _ _ _ (.cond _ _ _) _; first | refine gc_yes (h1 := ?_) | refine gc_no (h1 := ?_))))
      exact gk_next (hk2 _)
    · obtain rfl : i = j + 1 := by omega
      have hfit : ∀ a b, a < j + 1 → b < j + 1 → FitA (gmF xs ws j a) (gmF xs ws j b) := fun a b h3 h4 => by
        obtain ⟨_, k, k1, k2, k3⟩ := mmL_is (rS xs ws) (rW ws) a j (xs.length - 1 - j)
        refine (mmL_fit hL (i := b) (j := j) (m := xs.length - 1 - j) (by omega) (by omega) (p := gmF xs ws j a) ⟨a, k + 1, by omega, by omega, ?_⟩).1
        rw [← mnR_mnA]; exact k3
      have hval : mmH (rS xs ws) (rW ws) xs.length j j = fiR xs ws j := by
        rw [(poS_sup hL.asc (by omega)).means hL.asc]; rfl
      (repeat (first | refine gst (hk := ?_) | (show GO _ _ _ _ _ (⟨some _, none, .call _ _⟩ :: _) _; first | (refine go_callp rfl code_impl_ValidLoads.callable (fun H hH => implValidLoads_ok (hH.ints (by exact Has.auto)) (hH.ints (by exact Has.auto)) (by omega) (by omega)) ?_)) | (show GO _ _ _ _ _ (⟨some _, none, _⟩ :: _) _; first | refine go_op (hk := ?_) | (refine go_nw (hk := ?_); intro u; try simp only [llc, lln, lna, lza]) | (refine go_np (hk := ?_); intro id)) | (show GR _ _ _ _ _ _ (⟨some _, none, _⟩ :: _) _; refine gr_op (hk := ?_)) | (show GO _ _ _ _ _ (⟨none, none, _⟩ :: _) _; refine go_st (hk := ?_)) | (show GR _ _ _ _ _ _ (⟨none, none, _⟩ :: _) _; refine gr_st (hk := ?_)) | (show GO _ _ _ _ _ (⟨_, some _, _⟩ :: _) _; first | refine go_in (hk := ?_) | refine go_out (hk := ?_) | refine go_void (hk := ?_)) | (show GK _ _ _ _ (blockK _ _ _); refine gk_past rfl ?_) | (show GC _ _ _ _ _ (.cond _ _ _) _; first | refine gc_yes (h1 := ?_) | refine gc_no (h1 := ?_))))
      refine gc_drcs (fun H => qtTab [(fn_impl_greatest_impl_Frac, dOne [frV (gmF xs ws j 0), subW p 1 (j + 1)] (frV (hiR (gmF xs ws j) (j + 1 - 1))))]) (fun H hH => ?_) (fun H0 h0 => ?_)
      · exact qtTab_cons (greatest_call (hH.valsA (v := p) (es := 2) (n := j + 1) (cs := frs (fwL (gmF xs ws j) (j + 1))) (by exact Has.auto)) (by omega) (by omega) hfit) qtTab_nil
      (repeat (first | refine gst (hk := ?_) | (show GO _ _ _ _ _ (⟨some _, none, .call _ _⟩ :: _) _; first | (refine go_callp rfl code_impl_ValidLoads.callable (fun H hH => implValidLoads_ok (hH.ints (by exact Has.auto)) (hH.ints (by exact Has.auto)) (by omega) (by omega)) ?_)) | (show GO _ _ _ _ _ (⟨some _, none, _⟩ :: _) _; first | refine go_op (hk := ?_) | (refine go_nw (hk := ?_); intro u; try simp only [llc, lln, lna, lza]) | (refine go_np (hk := ?_); intro id)) | (show GR _ _ _ _ _ _ (⟨some _, none, _⟩ :: _) _; refine gr_op (hk := ?_)) | (show GO _ _ _ _ _ (⟨none, none, _⟩ :: _) _; refine go_st (hk := ?_)) | (show GR _ _ _ _ _ _ (⟨none, none, _⟩ :: _) _; refine gr_st (hk := ?_)) | (show GO _ _ _ _ _ (⟨_, some _, _⟩ :: _) _; first | refine go_in (hk := ?_) | refine go_out (hk := ?_) | refine go_void (hk := ?_)) | (show GK _ _ _ _ (blockK _ _ _); refine gk_past rfl ?_) | (show GC _ _ _ _ _ (.cond _ _ _) _; first | refine gc_yes (h1 := ?_) | refine gc_no (h1 := ?_))))
      refine gr_is rfl (stp_ldF (i := 0) rfl (by exact Has.auto) hfl.symm (by omega)) ?_
      rw [fwL_nth _ (by omega)]
      (repeat (first | refine gst (hk := ?_) | (show GO _ _ _ _ _ (⟨some _, none, .call _ _⟩ :: _) _; first | (refine go_callp rfl code_impl_ValidLoads.callable (fun H hH => implValidLoads_ok (hH.ints (by exact Has.auto)) (hH.ints (by exact Has.auto)) (by omega) (by omega)) ?_)) | (show GO _ _ _ _ _ (⟨some _, none, _⟩ :: _) _; first | refine go_op (hk := ?_) | (refine go_nw (hk := ?_); intro u; try simp only [llc, lln, lna, lza]) | (refine go_np (hk := ?_); intro id)) | (show GR _ _ _ _ _ _ (⟨some _, none, _⟩ :: _) _; refine gr_op (hk := ?_)) | (show GO _ _ _ _ _ (⟨none, none, _⟩ :: _) _; refine go_st (hk := ?_)) | (show GR _ _ _ _ _ _ (⟨none, none, _⟩ :: _) _; refine gr_st (hk := ?_)) | (show GO _ _ _ _ _ (⟨_, some _, _⟩ :: _) _; first | refine go_in (hk := ?_) | refine go_out (hk := ?_) | refine go_void (hk := ?_)) | (show GK _ _ _ _ (blockK _ _ _); refine gk_past rfl ?_) | (show GC _ _ _ _ _ (.cond _ _ _) _; first | refine gc_yes (h1 := ?_) | refine gc_no (h1 := ?_))))
      refine gr_is rfl (stp_slw (l := 1) rfl rfl (by exact Sel.auto) (by omega)) ?_
      refine gr_call rfl dOne_is ?_
      rw [gm_mm, show j + 1 - 1 = j from rfl, hval]
      (repeat (first | refine gst (hk := ?_) | (show GO _ _ _ _ _ (⟨some _, none, .call _ _⟩ :: _) _; first | (refine go_callp rfl code_impl_ValidLoads.callable (fun H hH => implValidLoads_ok (hH.ints (by exact Has.auto)) (hH.ints (by exact Has.auto)) (by omega) (by omega)) ?_)) | (show GO _ _ _ _ _ (⟨some _, none, _⟩ :: _) _; first | refine go_op (hk := ?_) | (refine go_nw (hk := ?_); intro u; try simp only [llc, lln, lna, lza]) | (refine go_np (hk := ?_); intro id)) | (show GR _ _ _ _ _ _ (⟨some _, none, _⟩ :: _) _; refine gr_op (hk := ?_)) | (show GO _ _ _ _ _ (⟨none, none, _⟩ :: _) _; refine go_st (hk := ?_)) | (show GR _ _ _ _ _ _ (⟨none, none, _⟩ :: _) _; refine gr_st (hk := ?_)) | (show GO _ _ _ _ _ (⟨_, some _, _⟩ :: _) _; first | refine go_in (hk := ?_) | refine go_out (hk := ?_) | refine go_void (hk := ?_)) | (show GK _ _ _ _ (blockK _ _ _); refine gk_past rfl ?_) | (show GC _ _ _ _ _ (.cond _ _ _) _; first | refine gc_yes (h1 := ?_) | refine gc_no (h1 := ?_))))
      refine gr_is0 rfl (stp_stK cels_fo (i := j) (a := some (fiR xs ws j)) rfl rfl (by exact Sel.auto) (tabS_len _ _).symm (by omega)) ?_
      rw [tabS_set, tabS_congr (g := fun k => if k < j + 1 then some (fiR xs ws k) else none) (fun k hk => by
        by_cases e : k = j
        · subst e; rw [if_pos rfl, if_pos (by omega)]
        · rw [if_neg e]
          by_cases e2 : k < j
          · rw [if_pos e2, if_pos (by omega)]
          · rw [if_neg e2, if_neg (by omega)])]
      (repeat (first | refine gst (hk := ?_) | (show GO _ _ _ _ _ (⟨some _, none, .call _ _⟩ :: _) _; first | (refine go_callp rfl code_impl_ValidLoads.callable (fun H hH => implValidLoads_ok (hH.ints (by exact Has.auto)) (hH.ints (by exact Has.auto)) (by omega) (by omega)) ?_)) | (show GO _ _ _ _ _ (⟨some _, none, _⟩ :: _) _; first | refine go_op (hk := ?_) | (refine go_nw (hk := ?_); intro u; try simp only [llc, lln, lna, lza]) | (refine go_np (hk := ?_); intro id)) | (show GR _ _ _ _ _ _ (⟨some _, none, _⟩ :: _) _; refine gr_op (hk := ?_)) | (show GO _ _ _ _ _ (⟨none, none, _⟩ :: _) _; refine go_st (hk := ?_)) | (show GR _ _ _ _ _ _ (⟨none, none, _⟩ :: _) _; refine gr_st (hk := ?_)) | (show GO _ _ _ _ _ (⟨_, some _, _⟩ :: _) _; first | refine go_in (hk := ?_) | refine go_out (hk := ?_) | refine go_void (hk := ?_)) | (show GK _ _ _ _ (blockK _ _ _); refine gk_past rfl ?_) | (show GC _ _ _ _ _ (.cond _ _ _) _; first | refine gc_yes (h1 := ?_) | refine gc_no (h1 := ?_))))
      exact gk_next hk
  · obtain rfl : j = xs.length := by omega
    rw [tabS_congr (g := fun k => some (fiR xs ws k)) (fun k hk => if_pos hk), fo_some, tab_fi]
    (repeat (first | refine gst (hk := ?_) | (show GO _ _ _ _ _ (⟨some _, none, .call _ _⟩ :: _) _; first | (refine go_callp rfl code_impl_ValidLoads.callable (fun H hH => implValidLoads_ok (hH.ints (by exact Has.auto)) (hH.ints (by exact Has.auto)) (by omega) (by omega)) ?_)) | (show GO _ _ _ _ _ (⟨some _, none, _⟩ :: _) _; first | refine go_op (hk := ?_) | (refine go_nw (hk := ?_); intro u; try simp only [llc, lln, lna, lza]) | (refine go_np (hk := ?_); intro id)) | (show GR _ _ _ _ _ _ (⟨some _, none, _⟩ :: _) _; refine gr_op (hk := ?_)) | (show GO _ _ _ _ _ (⟨none, none, _⟩ :: _) _; refine go_st (hk := ?_)) | (show GR _ _ _ _ _ _ (⟨none, none, _⟩ :: _) _; refine gr_st (hk := ?_)) | (show GO _ _ _ _ _ (⟨_, some _, _⟩ :: _) _; first | refine go_in (hk := ?_) | refine go_out (hk := ?_) | refine go_void (hk := ?_)) | (show GK _ _ _ _ (blockK _ _ _); refine gk_past rfl ?_) | (show GC _ _ _ _ _ (.cond _ _ _) _; first | refine gc_yes (h1 := ?_) | refine gc_no (h1 := ?_))))
    exact gk_ret rfl fun H' hH => hH.give (by exact Sel.auto)

theorem throughL_ok {H : Heap} {p q : Int × Int} (hp : (0 ≤ p.1 ∧ p.1 ≤ 40) ∧ (-1200 ≤ p.2 ∧ p.2 ≤ 1200)) (hq : (0 ≤ q.1 ∧ q.1 ≤ 40) ∧ (-1200 ≤ q.2 ∧ q.2 ≤ 1200)) (h : p.1 < q.1) (hd : -(30 * (q.1 - p.1)) ≤ q.2 - p.2 ∧ q.2 - p.2 ≤ 30 * (q.1 - p.1)) :
    ACalls Try.prog fn_impl_through [pnV p, pnV q] H fun r H' => r = lnV (thS p q) (((p.2 : Int) : Rat) - thS p q * ((p.1 : Int) : Rat)) ∧ H' = H := by
  refine ACalls.val ?_ rfl
  obtain ⟨a1, a2⟩ := hp
  obtain ⟨b1, b2⟩ := hq
  have f : FD (thS p q) (q.1 - p.1) (30 * (q.1 - p.1)) := FD.div (by omega) hd
  have g : FD ((p.1 : Int) : Rat) 1 40 := FD.int (by omega)
  have g2 : FD ((p.2 : Int) : Rat) 1 1200 := FD.int (by omega)
  have f1 : FitM (thS p q) ((p.1 : Int) : Rat) := fitM_of f g (by omega) (by omega)
  have f2 : FitA ((p.2 : Int) : Rat) (thS p q * ((p.1 : Int) : Rat)) := fitA_of g2 (f.mul g) (by omega) (by omega) (by omega)
  refine code_impl_through.go [] trivial (by simp) ?_
  unfold mc_impl_through
  (repeat (first | refine gst (hk := ?_) | (show GO _ _ _ _ _ (⟨some _, none, _⟩ :: _) _; first | refine go_op (hk := ?_) | (refine go_nw (hk := ?_); intro u; try simp only [llc, lln, lna, lza]) | (refine go_np (hk := ?_); intro id)) | (show GR _ _ _ _ _ _ (⟨some _, none, _⟩ :: _) _; refine gr_op (hk := ?_)) | (show GO _ _ _ _ _ (⟨none, none, _⟩ :: _) _; refine go_st (hk := ?_)) | (show GR _ _ _ _ _ _ (⟨none, none, _⟩ :: _) _; refine gr_st (hk := ?_)) | (show GO _ _ _ _ _ (⟨_, some _, _⟩ :: _) _; first | refine go_in (hk := ?_) | refine go_out (hk := ?_) | refine go_void (hk := ?_)) | (show GK _ _ _ _ (blockK _ _ _); refine gk_past rfl ?_) | (show GC _ _ _ _ _ (.cond _ _ _) _; first | refine gc_yes (h1 := ?_) | refine gc_no (h1 := ?_))))
  refine go_callp rfl code_impl_lowest.callable (fun H hH => lowest_ok (a := q.2 - p.2) (b := q.1 - p.1) (by omega) (by omega) (by omega)) ?_
  rw [show ((q.2 - p.2 : Int) : Rat) / ((q.1 - p.1 : Int) : Rat) = thS p q from rfl]
  (repeat (first | refine gst (hk := ?_) | (show GO _ _ _ _ _ (⟨some _, none, _⟩ :: _) _; first | refine go_op (hk := ?_) | (refine go_nw (hk := ?_); intro u; try simp only [llc, lln, lna, lza]) | (refine go_np (hk := ?_); intro id)) | (show GR _ _ _ _ _ _ (⟨some _, none, _⟩ :: _) _; refine gr_op (hk := ?_)) | (show GO _ _ _ _ _ (⟨none, none, _⟩ :: _) _; refine go_st (hk := ?_)) | (show GR _ _ _ _ _ _ (⟨none, none, _⟩ :: _) _; refine gr_st (hk := ?_)) | (show GO _ _ _ _ _ (⟨_, some _, _⟩ :: _) _; first | refine go_in (hk := ?_) | refine go_out (hk := ?_) | refine go_void (hk := ?_)) | (show GK _ _ _ _ (blockK _ _ _); refine gk_past rfl ?_) | (show GC _ _ _ _ _ (.cond _ _ _) _; first | refine gc_yes (h1 := ?_) | refine gc_no (h1 := ?_))))
  refine gc_drc (fun _ => qtTab [(fn_impl_whole, dWhole), (fn_impl_Frac_times, dTimesI), (fn_impl_Frac_minus, dMinusI)]) (fun H _ => qtTab_cons (dWhole_ok H) (qtTab_cons (dTimesI_ok H) (qtTab_cons (dMinusI_ok H) qtTab_nil))) (fun H0 => ?_)
  (repeat (first | refine gst (hk := ?_) | (show GO _ _ _ _ _ (⟨some _, none, _⟩ :: _) _; first | refine go_op (hk := ?_) | (refine go_nw (hk := ?_); intro u; try simp only [llc, lln, lna, lza]) | (refine go_np (hk := ?_); intro id)) | (show GR _ _ _ _ _ _ (⟨some _, none, _⟩ :: _) _; refine gr_op (hk := ?_)) | (show GO _ _ _ _ _ (⟨none, none, _⟩ :: _) _; refine go_st (hk := ?_)) | (show GR _ _ _ _ _ _ (⟨none, none, _⟩ :: _) _; refine gr_st (hk := ?_)) | (show GO _ _ _ _ _ (⟨_, some _, _⟩ :: _) _; first | refine go_in (hk := ?_) | refine go_out (hk := ?_) | refine go_void (hk := ?_)) | (show GK _ _ _ _ (blockK _ _ _); refine gk_past rfl ?_) | (show GC _ _ _ _ _ (.cond _ _ _) _; first | refine gc_yes (h1 := ?_) | refine gc_no (h1 := ?_))))
  refine gr_call (v := frV ((p.2 : Int) : Rat)) rfl rfl ?_
  (repeat (first | refine gst (hk := ?_) | (show GO _ _ _ _ _ (⟨some _, none, _⟩ :: _) _; first | refine go_op (hk := ?_) | (refine go_nw (hk := ?_); intro u; try simp only [llc, lln, lna, lza]) | (refine go_np (hk := ?_); intro id)) | (show GR _ _ _ _ _ _ (⟨some _, none, _⟩ :: _) _; refine gr_op (hk := ?_)) | (show GO _ _ _ _ _ (⟨none, none, _⟩ :: _) _; refine go_st (hk := ?_)) | (show GR _ _ _ _ _ _ (⟨none, none, _⟩ :: _) _; refine gr_st (hk := ?_)) | (show GO _ _ _ _ _ (⟨_, some _, _⟩ :: _) _; first | refine go_in (hk := ?_) | refine go_out (hk := ?_) | refine go_void (hk := ?_)) | (show GK _ _ _ _ (blockK _ _ _); refine gk_past rfl ?_) | (show GC _ _ _ _ _ (.cond _ _ _) _; first | refine gc_yes (h1 := ?_) | refine gc_no (h1 := ?_))))
  refine gr_call rfl (dTimesI_is (p := thS p q) f1) ?_
  refine gr_call rfl (fam2_is (F := FitA) (p := ((p.2 : Int) : Rat)) (q := thS p q * ((p.1 : Int) : Rat)) f2) ?_
  (repeat (first | refine gst (hk := ?_) | (show GO _ _ _ _ _ (⟨some _, none, _⟩ :: _) _; first | refine go_op (hk := ?_) | (refine go_nw (hk := ?_); intro u; try simp only [llc, lln, lna, lza]) | (refine go_np (hk := ?_); intro id)) | (show GR _ _ _ _ _ _ (⟨some _, none, _⟩ :: _) _; refine gr_op (hk := ?_)) | (show GO _ _ _ _ _ (⟨none, none, _⟩ :: _) _; refine go_st (hk := ?_)) | (show GR _ _ _ _ _ _ (⟨none, none, _⟩ :: _) _; refine gr_st (hk := ?_)) | (show GO _ _ _ _ _ (⟨_, some _, _⟩ :: _) _; first | refine go_in (hk := ?_) | refine go_out (hk := ?_) | refine go_void (hk := ?_)) | (show GK _ _ _ _ (blockK _ _ _); refine gk_past rfl ?_) | (show GC _ _ _ _ _ (.cond _ _ _) _; first | refine gc_yes (h1 := ?_) | refine gc_no (h1 := ?_))))
  exact gk_retc rfl (by exact Sel.auto) rfl rfl fun H' hH => ⟨rfl, hH.leE⟩

def huP (xs ws : List Int) (t : Nat) : Int × Int := (sumI ws t, dotT xs ws t)

abbrev huL (xs ws : List Int) : List (Int × Int) := tabS (xs.length + 1) (huP xs ws)

theorem Loads.hu_bd {xs ws : List Int} (hL : Loads xs ws) {t : Nat} (ht : t ≤ xs.length) : (0 ≤ (huP xs ws t).1 ∧ (huP xs ws t).1 ≤ 40) ∧ (-1200 ≤ (huP xs ws t).2 ∧ (huP xs ws t).2 ≤ 1200) := by
  have h := hL.sums (i := 0) (e := t) (by omega) ht
  have hn := hL.2.2.2.2
  have e1 : sumI ws 0 = 0 := rfl
  have e2 : dotT xs ws 0 = 0 := rfl
  rw [e1, e2] at h
  unfold huP
  dsimp only
  omega

theorem huT_ok {H : Heap} {xs ws : List Int} (hL : Loads xs ws) {i k : Nat} (h1 : i < k) (h2 : k ≤ xs.length) :
    ACalls Try.prog fn_impl_through [pnV (huP xs ws i), pnV (huP xs ws k)] H fun r H' => r = lnV (mnR xs ws i k) (((dotT xs ws i : Int) : Rat) - mnR xs ws i k * ((sumI ws i : Int) : Rat)) ∧ H' = H := by
  have h := hL.sums (i := i) (e := k) (by omega) h2
  have hp := hL.pos h1 h2
  exact throughL_ok (hL.hu_bd (by omega)) (hL.hu_bd h2) (by unfold huP; dsimp only; omega) (by unfold huP; dsimp only; omega)

noncomputable def nxT (xs ws : List Int) (i : Nat) : Nat → Nat
  | 0 => i
  | d + 1 => by
    classical
    exact if mnR xs ws i (i + d + 2) ≤ mnR xs ws i (nxT xs ws i d + 1) then i + d + 1 else nxT xs ws i d

theorem nxT_yes {xs ws : List Int} {i d : Nat} (h : mnR xs ws i (i + d + 2) ≤ mnR xs ws i (nxT xs ws i d + 1)) : nxT xs ws i (d + 1) = i + d + 1 := by
  rw [nxT, if_pos h]

theorem nxT_no {xs ws : List Int} {i d : Nat} (h : ¬ mnR xs ws i (i + d + 2) ≤ mnR xs ws i (nxT xs ws i d + 1)) : nxT xs ws i (d + 1) = nxT xs ws i d := by
  rw [nxT, if_neg h]

theorem nxT_is (xs ws : List Int) (i : Nat) : ∀ d, (i ≤ nxT xs ws i d ∧ nxT xs ws i d ≤ i + d) ∧ ∀ k, i ≤ k → k ≤ i + d → mnR xs ws i (nxT xs ws i d + 1) ≤ mnR xs ws i (k + 1)
  | 0 => ⟨⟨Nat.le_refl _, Nat.le_refl _⟩, fun k h1 h2 => by
      obtain rfl : k = i := by omega
      exact Rat.le_refl⟩
  | d + 1 => by
    obtain ⟨⟨a1, a2⟩, a3⟩ := nxT_is xs ws i d
    by_cases hc : mnR xs ws i (i + d + 2) ≤ mnR xs ws i (nxT xs ws i d + 1)
    · rw [nxT_yes hc]
      refine ⟨⟨by omega, by omega⟩, fun k h1 h2 => ?_⟩
      rcases Nat.lt_or_ge (i + d) k with g | g
      · obtain rfl : k = i + d + 1 := by omega
        exact Rat.le_refl
      · exact Rat.le_trans hc (a3 k h1 g)
    · rw [nxT_no hc]
      refine ⟨⟨a1, by omega⟩, fun k h1 h2 => ?_⟩
      rcases Nat.lt_or_ge (i + d) k with g | g
      · obtain rfl : k = i + d + 1 := by omega
        exact Rat.le_of_lt (Rat.not_le.1 hc)
      · exact a3 k h1 g

theorem nextOnHull_ok {H : Heap} {w : AV} {xs ws : List Int} {i : Nat} (hw : Vals H w 2 (xs.length + 1) (pns (huL xs ws))) (hL : Loads xs ws) (hi : i < xs.length) :
    ACalls Try.prog fn_impl_nextOnHull [w, .int .i64 (i : Int)] H fun r H' => r = .tuple [frV (mnR xs ws i (nxT xs ws i (xs.length - 1 - i) + 1)), .int .i64 ((nxT xs ws i (xs.length - 1 - i) + 1 : Nat) : Int)] ∧ H' = H := by
  refine ACalls.val ?_ rfl
  have hn := hL.2.2.2.2
  have hul : (huL xs ws).length = xs.length + 1 := tabS_len _ _
  have hun : ∀ t, t ≤ xs.length → nthA (0, 0) (huL xs ws) t = huP xs ws t := fun t ht => tabS_nth (by omega)
  refine code_impl_nextOnHull.go [roP w (xs.length + 1) (huL xs ws)] ⟨⟨rfl, hw⟩, trivial⟩ (by simp) ?_
  unfold mc_impl_nextOnHull
  (repeat (first | refine gst (hk := ?_) | (with_reducible first | (refine gc_drw (h := ?_); intro _) | (refine gc_drw2 (h := ?_); intro _)) | (show GO _ _ _ _ _ (⟨some _, none, _⟩ :: _) _; first | refine go_op (hk := ?_) | (refine go_nw (hk := ?_); intro u; try simp only [llc, lln, lna, lza]) | (refine go_np (hk := ?_); intro id)) | (show GD _ _ _ _ _ _ _ (⟨some _, none, _⟩ :: _) _; first | refine gd_op (hk := ?_) | (refine gd_nw (hk := ?_); intro u; try simp only [llc, lln, lna, lza])) | (show GD2 _ _ _ _ _ _ _ _ _ _ _ _ _ _; first | refine gd2_nil rfl ?_ | refine gd2_op (hk := ?_) | (refine gd2_nw (hk := ?_); intro u; try simp only [llc, lln, lna, lza]) | refine gd2_l (hk := ?_) | refine gd2_lp (hk := ?_) | (refine gd2_newp (hk := ?_); intro id) | refine gd2_st (hk := ?_) | (refine gd2_bsl rfl rfl ?_; intro u; try simp only [llc, lln, lna, lza]) | (refine gd2_a (hk := ?_); intro u; try simp only [llc, lln, lna, lza])) | (show GO _ _ _ _ _ (⟨none, none, _⟩ :: _) _; refine go_st (hk := ?_)) | (show GD _ _ _ _ _ _ _ (⟨none, none, _⟩ :: _) _; refine gd_st (hk := ?_)) | (show GO _ _ _ _ _ (⟨_, some _, _⟩ :: _) _; first | refine go_in (hk := ?_) | refine go_out (hk := ?_) | refine go_void (hk := ?_)) | (show GK _ _ _ _ (blockK _ _ _); refine gk_past rfl ?_) | (show GC _ _ _ _ _ (.cond _ _ _) _; first | refine gc_yes (h1 := ?_) | refine gc_no (h1 := ?_))))
  revert id; intro i4
  refine gc_drw4n (qtTab [(fn_impl_through, dOne [pnV (huP xs ws i), pnV (huP xs ws (i + 1))] (lnV (mnR xs ws i (i + 1)) (((dotT xs ws i : Int) : Rat) - mnR xs ws i (i + 1) * ((sumI ws i : Int) : Rat))))]) (fun H0 H hH0 hg => qtTab_cons (dOne_ok code_impl_through.callable (huT_ok hL (by omega) (by omega))) qtTab_nil) (fun H0 hH0 => ?_)
  repeat (refine gd4_op (hk := ?_))
  refine gd4_ld (u := w.elem i) rfl (stp_ldK cels_pn (0, 0) (i := i) rfl (by exact Has.auto) hul.symm (by omega)) ?_
  rw [hun i (by omega), show AV.agg (pnC (huP xs ws i)) = pnV (huP xs ws i) from rfl]
  repeat (refine gd4_op (hk := ?_))
  refine gd4_ld (u := w.elem (i + 1)) rfl (stp_ldK cels_pn (0, 0) (i := i + 1) rfl (by exact Has.auto) hul.symm (by omega)) ?_
  rw [hun (i + 1) (by omega), show AV.agg (pnC (huP xs ws (i + 1))) = pnV (huP xs ws (i + 1)) from rfl]
  refine gd4_call rfl dOne_is ?_
  refine gd4_is (v := frV (mnR xs ws i (i + 1))) rfl (stp_fld (cs := [_, _, _, _]) rfl (by simp) (by exact rfl)) ?_
  refine gd4_new ?_
  refine gd4_st rfl stp_stag ?_
  have b1 := vid_old (v := w) (es := 2) (n := xs.length + 1) (cs := pns (huL xs ws)) (i := i) hH0 (by exact Has.auto)
  have b2 := vid_old (v := w) (es := 2) (n := xs.length + 1) (cs := pns (huL xs ws)) (i := i + 1) hH0 (by exact Has.auto)
  refine gd4_nil (pairs_on rfl rfl b1 (pairs_on rfl rfl b2 trivial)) (by simp [vid]) ?_
  (repeat (first | refine gst (hk := ?_) | (with_reducible first | (refine gc_drw (h := ?_); intro _) | (refine gc_drw2 (h := ?_); intro _)) | (show GO _ _ _ _ _ (⟨some _, none, _⟩ :: _) _; first | refine go_op (hk := ?_) | (refine go_nw (hk := ?_); intro u; try simp only [llc, lln, lna, lza]) | (refine go_np (hk := ?_); intro id)) | (show GD _ _ _ _ _ _ _ (⟨some _, none, _⟩ :: _) _; first | refine gd_op (hk := ?_) | (refine gd_nw (hk := ?_); intro u; try simp only [llc, lln, lna, lza])) | (show GD2 _ _ _ _ _ _ _ _ _ _ _ _ _ _; first | refine gd2_nil rfl ?_ | refine gd2_op (hk := ?_) | (refine gd2_nw (hk := ?_); intro u; try simp only [llc, lln, lna, lza]) | refine gd2_l (hk := ?_) | refine gd2_lp (hk := ?_) | (refine gd2_newp (hk := ?_); intro id) | refine gd2_st (hk := ?_) | (refine gd2_bsl rfl rfl ?_; intro u; try simp only [llc, lln, lna, lza]) | (refine gd2_a (hk := ?_); intro u; try simp only [llc, lln, lna, lza])) | (show GO _ _ _ _ _ (⟨none, none, _⟩ :: _) _; refine go_st (hk := ?_)) | (show GD _ _ _ _ _ _ _ (⟨none, none, _⟩ :: _) _; refine gd_st (hk := ?_)) | (show GO _ _ _ _ _ (⟨_, some _, _⟩ :: _) _; first | refine go_in (hk := ?_) | refine go_out (hk := ?_) | refine go_void (hk := ?_)) | (show GK _ _ _ _ (blockK _ _ _); refine gk_past rfl ?_) | (show GC _ _ _ _ _ (.cond _ _ _) _; first | refine gc_yes (h1 := ?_) | refine gc_no (h1 := ?_))))
  refine gc_keep [(0, w), (1, .int .i64 (i : Int)), (4, .ptr i4 0), (6, .int .i64 ((i + 1 : Nat) : Int)), (7, .ptr (H0.size + 10) 0), (8, .int .i64 ((i + 2 : Nat) : Int))] [celF (H0.size + 10) (mnR xs ws i (i + 1)), cel0 i4, roP w (xs.length + 1) (huL xs ws)] (by (repeat (refine Cov.cons (by exact rfl) ?_)); exact Cov.nil) (by exact Sub.auto) ?_
  clear hH0
  generalize H0.size + 10 = i7
  refine gc_up (xs.length - 1 - i) (fun d => [(0, w), (1, .int .i64 (i : Int)), (4, .ptr i4 0), (6, .int .i64 ((nxT xs ws i d + 1 : Nat) : Int)), (7, .ptr i7 0), (8, .int .i64 ((i + d + 2 : Nat) : Int))]) (fun d => [celF i7 (mnR xs ws i (nxT xs ws i d + 1)), cel0 i4, roP w (xs.length + 1) (huL xs ws)]) (hb := ?_)
  intro d hd I ν m hk
  obtain ⟨⟨x1, x2⟩, _⟩ := nxT_is xs ws i d
  (repeat (first | refine gst (hk := ?_) | (with_reducible first | (refine gc_drw (h := ?_); intro _) | (refine gc_drw2 (h := ?_); intro _)) | (show GO _ _ _ _ _ (⟨some _, none, _⟩ :: _) _; first | refine go_op (hk := ?_) | (refine go_nw (hk := ?_); intro u; try simp only [llc, lln, lna, lza]) | (refine go_np (hk := ?_); intro id)) | (show GD _ _ _ _ _ _ _ (⟨some _, none, _⟩ :: _) _; first | refine gd_op (hk := ?_) | (refine gd_nw (hk := ?_); intro u; try simp only [llc, lln, lna, lza])) | (show GD2 _ _ _ _ _ _ _ _ _ _ _ _ _ _; first | refine gd2_nil rfl ?_ | refine gd2_op (hk := ?_) | (refine gd2_nw (hk := ?_); intro u; try simp only [llc, lln, lna, lza]) | refine gd2_l (hk := ?_) | refine gd2_lp (hk := ?_) | (refine gd2_newp (hk := ?_); intro id) | refine gd2_st (hk := ?_) | (refine gd2_bsl rfl rfl ?_; intro u; try simp only [llc, lln, lna, lza]) | (refine gd2_a (hk := ?_); intro u; try simp only [llc, lln, lna, lza])) | (show GO _ _ _ _ _ (⟨none, none, _⟩ :: _) _; refine go_st (hk := ?_)) | (show GD _ _ _ _ _ _ _ (⟨none, none, _⟩ :: _) _; refine gd_st (hk := ?_)) | (show GO _ _ _ _ _ (⟨_, some _, _⟩ :: _) _; first | refine go_in (hk := ?_) | refine go_out (hk := ?_) | refine go_void (hk := ?_)) | (show GK _ _ _ _ (blockK _ _ _); refine gk_past rfl ?_) | (show GC _ _ _ _ _ (.cond _ _ _) _; first | refine gc_yes (h1 := ?_) | refine gc_no (h1 := ?_))))
  refine gc_cond rfl (fun h1 => ?_) (fun h1 => ?_)
  · have hk := hk (by omega)
    (repeat (first | refine gst (hk := ?_) | (with_reducible first | (refine gc_drw (h := ?_); intro _) | (refine gc_drw2 (h := ?_); intro _)) | (show GO _ _ _ _ _ (⟨some _, none, _⟩ :: _) _; first | refine go_op (hk := ?_) | (refine go_nw (hk := ?_); intro u; try simp only [llc, lln, lna, lza]) | (refine go_np (hk := ?_); intro id)) | (show GD _ _ _ _ _ _ _ (⟨some _, none, _⟩ :: _) _; first | refine gd_op (hk := ?_) | (refine gd_nw (hk := ?_); intro u; try simp only [llc, lln, lna, lza])) | (show GD2 _ _ _ _ _ _ _ _ _ _ _ _ _ _; first | refine gd2_nil rfl ?_ | refine gd2_op (hk := ?_) | (refine gd2_nw (hk := ?_); intro u; try simp only [llc, lln, lna, lza]) | refine gd2_l (hk := ?_) | refine gd2_lp (hk := ?_) | (refine gd2_newp (hk := ?_); intro id) | refine gd2_st (hk := ?_) | (refine gd2_bsl rfl rfl ?_; intro u; try simp only [llc, lln, lna, lza]) | (refine gd2_a (hk := ?_); intro u; try simp only [llc, lln, lna, lza])) | (show GO _ _ _ _ _ (⟨none, none, _⟩ :: _) _; refine go_st (hk := ?_)) | (show GD _ _ _ _ _ _ _ (⟨none, none, _⟩ :: _) _; refine gd_st (hk := ?_)) | (show GO _ _ _ _ _ (⟨_, some _, _⟩ :: _) _; first | refine go_in (hk := ?_) | refine go_out (hk := ?_) | refine go_void (hk := ?_)) | (show GK _ _ _ _ (blockK _ _ _); refine gk_past rfl ?_) | (show GC _ _ _ _ _ (.cond _ _ _) _; first | refine gc_yes (h1 := ?_) | refine gc_no (h1 := ?_))))
    refine gc_drw4n (qtTab [(fn_impl_through, dOne [pnV (huP xs ws i), pnV (huP xs ws (i + d + 2))] (lnV (mnR xs ws i (i + d + 2)) (((dotT xs ws i : Int) : Rat) - mnR xs ws i (i + d + 2) * ((sumI ws i : Int) : Rat))))]) (fun H0 H hH0 hg => qtTab_cons (dOne_ok code_impl_through.callable (huT_ok hL (by omega) (by omega))) qtTab_nil) (fun H0 hH0 => ?_)
    repeat (refine gd4_op (hk := ?_))
    refine gd4_ld (u := w.elem i) rfl (stp_ldK cels_pn (0, 0) (i := i) rfl (by exact Has.auto) hul.symm (by omega)) ?_
    rw [hun i (by omega), show AV.agg (pnC (huP xs ws i)) = pnV (huP xs ws i) from rfl]
    repeat (refine gd4_op (hk := ?_))
    refine gd4_ld (u := w.elem (i + d + 2)) rfl (stp_ldK cels_pn (0, 0) (i := i + d + 2) rfl (by exact Has.auto) hul.symm (by omega)) ?_
    rw [hun (i + d + 2) (by omega), show AV.agg (pnC (huP xs ws (i + d + 2))) = pnV (huP xs ws (i + d + 2)) from rfl]
    refine gd4_call rfl dOne_is ?_
    refine gd4_is (v := frV (mnR xs ws i (i + d + 2))) rfl (stp_fld (cs := [_, _, _, _]) rfl (by simp) (by exact rfl)) ?_
    refine gd4_new ?_
    refine gd4_st rfl stp_stag ?_
    have b1 := vid_old (v := w) (es := 2) (n := xs.length + 1) (cs := pns (huL xs ws)) (i := i) hH0 (by exact Has.auto)
    have b2 := vid_old (v := w) (es := 2) (n := xs.length + 1) (cs := pns (huL xs ws)) (i := i + d + 2) hH0 (by exact Has.auto)
    refine gd4_nil (pairs_on rfl rfl b1 (pairs_on rfl rfl b2 trivial)) (by simp [vid]) ?_
    (repeat (first | refine gst (hk := ?_) | (with_reducible first | (refine gc_drw (h := ?_); intro _) | (refine gc_drw2 (h := ?_); intro _)) | (show GO _ _ _ _ _ (⟨some _, none, _⟩ :: _) _; first | refine go_op (hk := ?_) | (refine go_nw (hk := ?_); intro u; try simp only [llc, lln, lna, lza]) | (refine go_np (hk := ?_); intro id)) | (show GD _ _ _ _ _ _ _ (⟨some _, none, _⟩ :: _) _; first | refine gd_op (hk := ?_) | (refine gd_nw (hk := ?_); intro u; try simp only [llc, lln, lna, lza])) | (show GD2 _ _ _ _ _ _ _ _ _ _ _ _ _ _; first | refine gd2_nil rfl ?_ | refine gd2_op (hk := ?_) | (refine gd2_nw (hk := ?_); intro u; try simp only [llc, lln, lna, lza]) | refine gd2_l (hk := ?_) | refine gd2_lp (hk := ?_) | (refine gd2_newp (hk := ?_); intro id) | refine gd2_st (hk := ?_) | (refine gd2_bsl rfl rfl ?_; intro u; try simp only [llc, lln, lna, lza]) | (refine gd2_a (hk := ?_); intro u; try simp only [llc, lln, lna, lza])) | (show GO _ _ _ _ _ (⟨none, none, _⟩ :: _) _; refine go_st (hk := ?_)) | (show GD _ _ _ _ _ _ _ (⟨none, none, _⟩ :: _) _; refine gd_st (hk := ?_)) | (show GO _ _ _ _ _ (⟨_, some _, _⟩ :: _) _; first | refine go_in (hk := ?_) | refine go_out (hk := ?_) | refine go_void (hk := ?_)) | (show GK _ _ _ _ (blockK _ _ _); refine gk_past rfl ?_) | (show GC _ _ _ _ _ (.cond _ _ _) _; first | refine gc_yes (h1 := ?_) | refine gc_no (h1 := ?_))))
    have e9 : H0.size + (0 + 1 + 1 + 1 + 1 + 1 + 1 + 1 + 1 + 1 + 1) = H0.size + 10 := rfl
    rw [e9]
    clear e9 b1 b2 hH0
    generalize H0.size + 10 = i9
    refine go_callp rfl code_impl_Frac_compare.callable (fun H hH => implCompare_ok (p := mnR xs ws i (i + d + 2)) (q := mnR xs ws i (nxT xs ws i d + 1)) (hL.fits (by omega) (by omega) (by omega) (by omega))) ?_
    (repeat (first | refine gst (hk := ?_) | (with_reducible first | (refine gc_drw (h := ?_); intro _) | (refine gc_drw2 (h := ?_); intro _)) | (show GO _ _ _ _ _ (⟨some _, none, _⟩ :: _) _; first | refine go_op (hk := ?_) | (refine go_nw (hk := ?_); intro u; try simp only [llc, lln, lna, lza]) | (refine go_np (hk := ?_); intro id)) | (show GD _ _ _ _ _ _ _ (⟨some _, none, _⟩ :: _) _; first | refine gd_op (hk := ?_) | (refine gd_nw (hk := ?_); intro u; try simp only [llc, lln, lna, lza])) | (show GD2 _ _ _ _ _ _ _ _ _ _ _ _ _ _; first | refine gd2_nil rfl ?_ | refine gd2_op (hk := ?_) | (refine gd2_nw (hk := ?_); intro u; try simp only [llc, lln, lna, lza]) | refine gd2_l (hk := ?_) | refine gd2_lp (hk := ?_) | (refine gd2_newp (hk := ?_); intro id) | refine gd2_st (hk := ?_) | (refine gd2_bsl rfl rfl ?_; intro u; try simp only [llc, lln, lna, lza]) | (refine gd2_a (hk := ?_); intro u; try simp only [llc, lln, lna, lza])) | (show GO _ _ _ _ _ (⟨none, none, _⟩ :: _) _; refine go_st (hk := ?_)) | (show GD _ _ _ _ _ _ _ (⟨none, none, _⟩ :: _) _; refine gd_st (hk := ?_)) | (show GO _ _ _ _ _ (⟨_, some _, _⟩ :: _) _; first | refine go_in (hk := ?_) | refine go_out (hk := ?_) | refine go_void (hk := ?_)) | (show GK _ _ _ _ (blockK _ _ _); refine gk_past rfl ?_) | (show GC _ _ _ _ _ (.cond _ _ _) _; first | refine gc_yes (h1 := ?_) | refine gc_no (h1 := ?_))))
    refine gc_cond rfl (fun h2 => ?_) (fun h2 => ?_)
    · have hle : mnR xs ws i (i + d + 2) ≤ mnR xs ws i (nxT xs ws i d + 1) := Rat.not_lt.1 fun h3 => by
        have := cmR_pos.2 h3
        omega
      rw [nxT_yes hle] at hk
      (repeat (first | refine gst (hk := ?_) | (with_reducible first | (refine gc_drw (h := ?_); intro _) | (refine gc_drw2 (h := ?_); intro _)) | (show GO _ _ _ _ _ (⟨some _, none, _⟩ :: _) _; first | refine go_op (hk := ?_) | (refine go_nw (hk := ?_); intro u; try simp only [llc, lln, lna, lza]) | (refine go_np (hk := ?_); intro id)) | (show GD _ _ _ _ _ _ _ (⟨some _, none, _⟩ :: _) _; first | refine gd_op (hk := ?_) | (refine gd_nw (hk := ?_); intro u; try simp only [llc, lln, lna, lza])) | (show GD2 _ _ _ _ _ _ _ _ _ _ _ _ _ _; first | refine gd2_nil rfl ?_ | refine gd2_op (hk := ?_) | (refine gd2_nw (hk := ?_); intro u; try simp only [llc, lln, lna, lza]) | refine gd2_l (hk := ?_) | refine gd2_lp (hk := ?_) | (refine gd2_newp (hk := ?_); intro id) | refine gd2_st (hk := ?_) | (refine gd2_bsl rfl rfl ?_; intro u; try simp only [llc, lln, lna, lza]) | (refine gd2_a (hk := ?_); intro u; try simp only [llc, lln, lna, lza])) | (show GO _ _ _ _ _ (⟨none, none, _⟩ :: _) _; refine go_st (hk := ?_)) | (show GD _ _ _ _ _ _ _ (⟨none, none, _⟩ :: _) _; refine gd_st (hk := ?_)) | (show GO _ _ _ _ _ (⟨_, some _, _⟩ :: _) _; first | refine go_in (hk := ?_) | refine go_out (hk := ?_) | refine go_void (hk := ?_)) | (show GK _ _ _ _ (blockK _ _ _); refine gk_past rfl ?_) | (show GC _ _ _ _ _ (.cond _ _ _) _; first | refine gc_yes (h1 := ?_) | refine gc_no (h1 := ?_))))
      exact gk_next hk
    · have hle : ¬ mnR xs ws i (i + d + 2) ≤ mnR xs ws i (nxT xs ws i d + 1) := fun h3 => h2 (by
        rcases Int.lt_or_le 0 (cmR (mnR xs ws i (i + d + 2)) (mnR xs ws i (nxT xs ws i d + 1))) with g | g
        · exact absurd (cmR_pos.1 g) (Rat.not_lt.2 h3)
        · exact g)
      rw [nxT_no hle] at hk
      (repeat (first | refine gst (hk := ?_) | (with_reducible first | (refine gc_drw (h := ?_); intro _) | (refine gc_drw2 (h := ?_); intro _)) | (show GO _ _ _ _ _ (⟨some _, none, _⟩ :: _) _; first | refine go_op (hk := ?_) | (refine go_nw (hk := ?_); intro u; try simp only [llc, lln, lna, lza]) | (refine go_np (hk := ?_); intro id)) | (show GD _ _ _ _ _ _ _ (⟨some _, none, _⟩ :: _) _; first | refine gd_op (hk := ?_) | (refine gd_nw (hk := ?_); intro u; try simp only [llc, lln, lna, lza])) | (show GD2 _ _ _ _ _ _ _ _ _ _ _ _ _ _; first | refine gd2_nil rfl ?_ | refine gd2_op (hk := ?_) | (refine gd2_nw (hk := ?_); intro u; try simp only [llc, lln, lna, lza]) | refine gd2_l (hk := ?_) | refine gd2_lp (hk := ?_) | (refine gd2_newp (hk := ?_); intro id) | refine gd2_st (hk := ?_) | (refine gd2_bsl rfl rfl ?_; intro u; try simp only [llc, lln, lna, lza]) | (refine gd2_a (hk := ?_); intro u; try simp only [llc, lln, lna, lza])) | (show GO _ _ _ _ _ (⟨none, none, _⟩ :: _) _; refine go_st (hk := ?_)) | (show GD _ _ _ _ _ _ _ (⟨none, none, _⟩ :: _) _; refine gd_st (hk := ?_)) | (show GO _ _ _ _ _ (⟨_, some _, _⟩ :: _) _; first | refine go_in (hk := ?_) | refine go_out (hk := ?_) | refine go_void (hk := ?_)) | (show GK _ _ _ _ (blockK _ _ _); refine gk_past rfl ?_) | (show GC _ _ _ _ _ (.cond _ _ _) _; first | refine gc_yes (h1 := ?_) | refine gc_no (h1 := ?_))))
      exact gk_next hk
  · obtain rfl : d = xs.length - 1 - i := by omega
    (repeat (first | refine gst (hk := ?_) | (with_reducible first | (refine gc_drw (h := ?_); intro _) | (refine gc_drw2 (h := ?_); intro _)) | (show GO _ _ _ _ _ (⟨some _, none, _⟩ :: _) _; first | refine go_op (hk := ?_) | (refine go_nw (hk := ?_); intro u; try simp only [llc, lln, lna, lza]) | (refine go_np (hk := ?_); intro id)) | (show GD _ _ _ _ _ _ _ (⟨some _, none, _⟩ :: _) _; first | refine gd_op (hk := ?_) | (refine gd_nw (hk := ?_); intro u; try simp only [llc, lln, lna, lza])) | (show GD2 _ _ _ _ _ _ _ _ _ _ _ _ _ _; first | refine gd2_nil rfl ?_ | refine gd2_op (hk := ?_) | (refine gd2_nw (hk := ?_); intro u; try simp only [llc, lln, lna, lza]) | refine gd2_l (hk := ?_) | refine gd2_lp (hk := ?_) | (refine gd2_newp (hk := ?_); intro id) | refine gd2_st (hk := ?_) | (refine gd2_bsl rfl rfl ?_; intro u; try simp only [llc, lln, lna, lza]) | (refine gd2_a (hk := ?_); intro u; try simp only [llc, lln, lna, lza])) | (show GO _ _ _ _ _ (⟨none, none, _⟩ :: _) _; refine go_st (hk := ?_)) | (show GD _ _ _ _ _ _ _ (⟨none, none, _⟩ :: _) _; refine gd_st (hk := ?_)) | (show GO _ _ _ _ _ (⟨_, some _, _⟩ :: _) _; first | refine go_in (hk := ?_) | refine go_out (hk := ?_) | refine go_void (hk := ?_)) | (show GK _ _ _ _ (blockK _ _ _); refine gk_past rfl ?_) | (show GC _ _ _ _ _ (.cond _ _ _) _; first | refine gc_yes (h1 := ?_) | refine gc_no (h1 := ?_))))
    exact gk_rets (rvs_c rfl (by exact Sel.auto) rfl rfl (rvs_t rfl rvs_nil)) fun H' hH => ⟨rfl, hH.leE⟩

theorem implRiseByHull_ok {H : Heap} {a b : AV} {xs ws : List Int} (ha : Ints H a xs) (hb : Ints H b ws) (hl : xs.length ≤ 1000000000) (hl' : ws.length ≤ 1000000000) :
    ACalls Try.prog fn_impl_RiseByHull [a, b] H fun r H' => Own H H' r 2 (riO xs ws).length (frs (riO xs ws)) ∧ Le H H' := by
  refine code_impl_RiseByHull.go [.roI a xs.length xs, .roI b ws.length ws] ⟨⟨rfl, ha⟩, ⟨rfl, hb⟩, trivial⟩ (by simp) ?_
  unfold mc_impl_RiseByHull
  (repeat (first | refine gst (hk := ?_) | (show GO _ _ _ _ _ (⟨some _, none, .call _ _⟩ :: _) _; first | (refine go_callp rfl code_impl_ValidLoads.callable (fun H hH => implValidLoads_ok (hH.ints (by exact Has.auto)) (hH.ints (by exact Has.auto)) (by omega) (by omega)) ?_)) | (show GO _ _ _ _ _ (⟨some _, none, _⟩ :: _) _; first | refine go_op (hk := ?_) | (refine go_nw (hk := ?_); intro u; try simp only [llc, lln, lna, lza]) | (refine go_np (hk := ?_); intro id)) | (show GO _ _ _ _ _ (⟨none, none, _⟩ :: _) _; refine go_st (hk := ?_)) | (show GO _ _ _ _ _ (⟨_, some _, _⟩ :: _) _; first | refine go_in (hk := ?_) | refine go_out (hk := ?_) | refine go_void (hk := ?_)) | (show GK _ _ _ _ (blockK _ _ _); refine gk_past rfl ?_) | (show GC _ _ _ _ _ (.cond _ _ _) _; first | refine gc_yes (h1 := ?_) | refine gc_no (h1 := ?_))))
  refine gc_cond rfl (fun h => ?_) (fun h => ?_)
  · (repeat (first | refine gst (hk := ?_) | (show GO _ _ _ _ _ (⟨some _, none, .call _ _⟩ :: _) _; first | (refine go_callp rfl code_impl_ValidLoads.callable (fun H hH => implValidLoads_ok (hH.ints (by exact Has.auto)) (hH.ints (by exact Has.auto)) (by omega) (by omega)) ?_)) | (show GO _ _ _ _ _ (⟨some _, none, _⟩ :: _) _; first | refine go_op (hk := ?_) | (refine go_nw (hk := ?_); intro u; try simp only [llc, lln, lna, lza]) | (refine go_np (hk := ?_); intro id)) | (show GO _ _ _ _ _ (⟨none, none, _⟩ :: _) _; refine go_st (hk := ?_)) | (show GO _ _ _ _ _ (⟨_, some _, _⟩ :: _) _; first | refine go_in (hk := ?_) | refine go_out (hk := ?_) | refine go_void (hk := ?_)) | (show GK _ _ _ _ (blockK _ _ _); refine gk_past rfl ?_) | (show GC _ _ _ _ _ (.cond _ _ _) _; first | refine gc_yes (h1 := ?_) | refine gc_no (h1 := ?_))))
    refine gk_ret rfl fun H' hH => ⟨?_, hH.leE⟩
    unfold riO; rw [if_neg h]
    exact Own.nil _ _ _
  have hL := Decidable.not_not.1 h
  rw [(riO_len hL).2, (riO_len hL).1]
  have hn := hL.2.2.2.2
  have hpl := ptL_len xs ws
  (repeat (first | refine gst (hk := ?_) | (show GO _ _ _ _ _ (⟨some _, none, .call _ _⟩ :: _) _; first | (refine go_callp rfl code_impl_ValidLoads.callable (fun H hH => implValidLoads_ok (hH.ints (by exact Has.auto)) (hH.ints (by exact Has.auto)) (by omega) (by omega)) ?_)) | (show GO _ _ _ _ _ (⟨some _, none, _⟩ :: _) _; first | refine go_op (hk := ?_) | (refine go_nw (hk := ?_); intro u; try simp only [llc, lln, lna, lza]) | (refine go_np (hk := ?_); intro id)) | (show GO _ _ _ _ _ (⟨none, none, _⟩ :: _) _; refine go_st (hk := ?_)) | (show GO _ _ _ _ _ (⟨_, some _, _⟩ :: _) _; first | refine go_in (hk := ?_) | refine go_out (hk := ?_) | refine go_void (hk := ?_)) | (show GK _ _ _ _ (blockK _ _ _); refine gk_past rfl ?_) | (show GC _ _ _ _ _ (.cond _ _ _) _; first | refine gc_yes (h1 := ?_) | refine gc_no (h1 := ?_))))
  refine go_calln rfl code_impl_loadsOf.callable (fun H hH => loadsOf_ok (hH.ints (by exact Has.auto)) (hH.ints (by exact Has.auto)) hL.2.2.1 (by omega)) ?_
  intro u
  (repeat (first | refine gst (hk := ?_) | (show GO _ _ _ _ _ (⟨some _, none, .call _ _⟩ :: _) _; first | (refine go_callp rfl code_impl_ValidLoads.callable (fun H hH => implValidLoads_ok (hH.ints (by exact Has.auto)) (hH.ints (by exact Has.auto)) (by omega) (by omega)) ?_)) | (show GO _ _ _ _ _ (⟨some _, none, _⟩ :: _) _; first | refine go_op (hk := ?_) | (refine go_nw (hk := ?_); intro u; try simp only [llc, lln, lna, lza]) | (refine go_np (hk := ?_); intro id)) | (show GO _ _ _ _ _ (⟨none, none, _⟩ :: _) _; refine go_st (hk := ?_)) | (show GO _ _ _ _ _ (⟨_, some _, _⟩ :: _) _; first | refine go_in (hk := ?_) | refine go_out (hk := ?_) | refine go_void (hk := ?_)) | (show GK _ _ _ _ (blockK _ _ _); refine gk_past rfl ?_) | (show GC _ _ _ _ _ (.cond _ _ _) _; first | refine gc_yes (h1 := ?_) | refine gc_no (h1 := ?_))))
  refine gc_nilK 2 ?_
  refine gc_upv (xs.length + 1) (fun t p => [(5, u), (6, p), (21, .int .i64 ((xs.length + 1 : Nat) : Int)), (22, .int .i64 (t : Int))]) (fun t p => [rwP p t (tabS t (huP xs ws)), rwP u xs.length (ptL xs ws), .roI a xs.length xs, .roI b ws.length ws]) .nilSlice (hb := ?_)
  intro t p ht I ν m hk
  (repeat (first | refine gst (hk := ?_) | (show GO _ _ _ _ _ (⟨some _, none, .call _ _⟩ :: _) _; first | (refine go_callp rfl code_impl_ValidLoads.callable (fun H hH => implValidLoads_ok (hH.ints (by exact Has.auto)) (hH.ints (by exact Has.auto)) (by omega) (by omega)) ?_)) | (show GO _ _ _ _ _ (⟨some _, none, _⟩ :: _) _; first | refine go_op (hk := ?_) | (refine go_nw (hk := ?_); intro u; try simp only [llc, lln, lna, lza]) | (refine go_np (hk := ?_); intro id)) | (show GO _ _ _ _ _ (⟨none, none, _⟩ :: _) _; refine go_st (hk := ?_)) | (show GO _ _ _ _ _ (⟨_, some _, _⟩ :: _) _; first | refine go_in (hk := ?_) | refine go_out (hk := ?_) | refine go_void (hk := ?_)) | (show GK _ _ _ _ (blockK _ _ _); refine gk_past rfl ?_) | (show GC _ _ _ _ _ (.cond _ _ _) _; first | refine gc_yes (h1 := ?_) | refine gc_no (h1 := ?_))))
  refine gc_cond rfl (fun h1 => ?_) (fun h1 => ?_)
  · have hk := hk (by omega)
    (repeat (first | refine gst (hk := ?_) | (show GO _ _ _ _ _ (⟨some _, none, .call _ _⟩ :: _) _; first | (refine go_callp rfl code_impl_ValidLoads.callable (fun H hH => implValidLoads_ok (hH.ints (by exact Has.auto)) (hH.ints (by exact Has.auto)) (by omega) (by omega)) ?_)) | (show GO _ _ _ _ _ (⟨some _, none, _⟩ :: _) _; first | refine go_op (hk := ?_) | (refine go_nw (hk := ?_); intro u; try simp only [llc, lln, lna, lza]) | (refine go_np (hk := ?_); intro id)) | (show GO _ _ _ _ _ (⟨none, none, _⟩ :: _) _; refine go_st (hk := ?_)) | (show GO _ _ _ _ _ (⟨_, some _, _⟩ :: _) _; first | refine go_in (hk := ?_) | refine go_out (hk := ?_) | refine go_void (hk := ?_)) | (show GK _ _ _ _ (blockK _ _ _); refine gk_past rfl ?_) | (show GC _ _ _ _ _ (.cond _ _ _) _; first | refine gc_yes (h1 := ?_) | refine gc_no (h1 := ?_))))
    refine go_is rfl (stp_slh (l := t) rfl rfl (by exact Sel.auto) (by omega)) ?_
    refine go_callp rfl code_impl_totalOf.callable (fun H hH => totalOf_ok (i := 0) (e := t) (xs := xs) (ws := ws) (by
      have h := vals_pre (h := t) cels_pn (hH.valsA (v := u) (es := 2) (n := xs.length) (cs := pns (ptL xs ws)) (by exact Has.auto)) hpl.symm (by omega)
      unfold wnL
      rw [List.drop_zero, Nat.sub_zero]
      exact h) hL (by omega) (by omega)) ?_
    rw [show pnV (sumI ws t - sumI ws 0, dotT xs ws t - dotT xs ws 0) = pnV (huP xs ws t) by unfold huP; rw [show sumI ws 0 = 0 from rfl, show dotT xs ws 0 = 0 from rfl, Int.sub_zero, Int.sub_zero]]
    (repeat (first | refine gst (hk := ?_) | (show GO _ _ _ _ _ (⟨some _, none, .call _ _⟩ :: _) _; first | (refine go_callp rfl code_impl_ValidLoads.callable (fun H hH => implValidLoads_ok (hH.ints (by exact Has.auto)) (hH.ints (by exact Has.auto)) (by omega) (by omega)) ?_)) | (show GO _ _ _ _ _ (⟨some _, none, _⟩ :: _) _; first | refine go_op (hk := ?_) | (refine go_nw (hk := ?_); intro u; try simp only [llc, lln, lna, lza]) | (refine go_np (hk := ?_); intro id)) | (show GO _ _ _ _ _ (⟨none, none, _⟩ :: _) _; refine go_st (hk := ?_)) | (show GO _ _ _ _ _ (⟨_, some _, _⟩ :: _) _; first | refine go_in (hk := ?_) | refine go_out (hk := ?_) | refine go_void (hk := ?_)) | (show GK _ _ _ _ (blockK _ _ _); refine gk_past rfl ?_) | (show GC _ _ _ _ _ (.cond _ _ _) _; first | refine gc_yes (h1 := ?_) | refine gc_no (h1 := ?_))))
    refine go_new rfl (stp_appK cels_pn (by omega) (v := p) (n := t) (m' := 1) (L := tabS t (huP xs ws)) (M := [huP xs ws t]) rfl rfl (by exact Sel.auto) (by exact Has.rw) (by omega) (by omega)) ?_
    intro p'
    rw [tabS_snoc]
    (repeat (first | refine gst (hk := ?_) | (show GO _ _ _ _ _ (⟨some _, none, .call _ _⟩ :: _) _; first | (refine go_callp rfl code_impl_ValidLoads.callable (fun H hH => implValidLoads_ok (hH.ints (by exact Has.auto)) (hH.ints (by exact Has.auto)) (by omega) (by omega)) ?_)) | (show GO _ _ _ _ _ (⟨some _, none, _⟩ :: _) _; first | refine go_op (hk := ?_) | (refine go_nw (hk := ?_); intro u; try simp only [llc, lln, lna, lza]) | (refine go_np (hk := ?_); intro id)) | (show GO _ _ _ _ _ (⟨none, none, _⟩ :: _) _; refine go_st (hk := ?_)) | (show GO _ _ _ _ _ (⟨_, some _, _⟩ :: _) _; first | refine go_in (hk := ?_) | refine go_out (hk := ?_) | refine go_void (hk := ?_)) | (show GK _ _ _ _ (blockK _ _ _); refine gk_past rfl ?_) | (show GC _ _ _ _ _ (.cond _ _ _) _; first | refine gc_yes (h1 := ?_) | refine gc_no (h1 := ?_))))
    exact gk_next (hk p')
  · obtain rfl : t = xs.length + 1 := by omega
    (repeat (first | refine gst (hk := ?_) | (show GO _ _ _ _ _ (⟨some _, none, .call _ _⟩ :: _) _; first | (refine go_callp rfl code_impl_ValidLoads.callable (fun H hH => implValidLoads_ok (hH.ints (by exact Has.auto)) (hH.ints (by exact Has.auto)) (by omega) (by omega)) ?_)) | (show GO _ _ _ _ _ (⟨some _, none, _⟩ :: _) _; first | refine go_op (hk := ?_) | (refine go_nw (hk := ?_); intro u; try simp only [llc, lln, lna, lza]) | (refine go_np (hk := ?_); intro id)) | (show GO _ _ _ _ _ (⟨none, none, _⟩ :: _) _; refine go_st (hk := ?_)) | (show GO _ _ _ _ _ (⟨_, some _, _⟩ :: _) _; first | refine go_in (hk := ?_) | refine go_out (hk := ?_) | refine go_void (hk := ?_)) | (show GK _ _ _ _ (blockK _ _ _); refine gk_past rfl ?_) | (show GC _ _ _ _ _ (.cond _ _ _) _; first | refine gc_yes (h1 := ?_) | refine gc_no (h1 := ?_))))
    refine gc_nilK 2 ?_
    refine gc_loop (γ := Nat × AV) (fun g => [(5, u), (6, p), (8, g.2), (9, .int .i64 (g.1 : Int))]) (fun g => [rwF g.2 g.1 (fiL xs ws g.1), rwP p (xs.length + 1) (huL xs ws), rwP u xs.length (ptL xs ws), .roI a xs.length xs, .roI b ws.length ws]) (fun g => g.1 ≤ xs.length ∧ OnH (rS xs ws) (rW ws) xs.length g.1) (fun g => xs.length - g.1) (0, .nilSlice) ⟨Nat.zero_le _, .inl rfl⟩ (hb := ?_)
    rintro ⟨i, f⟩ ⟨hi, hon⟩ I2 ν2 m2 hk2
    simp only at hi hon hk2 ⊢
    have hfl := fiL_len xs ws i
    (repeat (first | refine gst (hk := ?_) | (show GO _ _ _ _ _ (⟨some _, none, .call _ _⟩ :: _) _; first | (refine go_callp rfl code_impl_ValidLoads.callable (fun H hH => implValidLoads_ok (hH.ints (by exact Has.auto)) (hH.ints (by exact Has.auto)) (by omega) (by omega)) ?_)) | (show GO _ _ _ _ _ (⟨some _, none, _⟩ :: _) _; first | refine go_op (hk := ?_) | (refine go_nw (hk := ?_); intro u; try simp only [llc, lln, lna, lza]) | (refine go_np (hk := ?_); intro id)) | (show GO _ _ _ _ _ (⟨none, none, _⟩ :: _) _; refine go_st (hk := ?_)) | (show GO _ _ _ _ _ (⟨_, some _, _⟩ :: _) _; first | refine go_in (hk := ?_) | refine go_out (hk := ?_) | refine go_void (hk := ?_)) | (show GK _ _ _ _ (blockK _ _ _); refine gk_past rfl ?_) | (show GC _ _ _ _ _ (.cond _ _ _) _; first | refine gc_yes (h1 := ?_) | refine gc_no (h1 := ?_))))
    refine gc_cond rfl (fun h2 => ?_) (fun h2 => ?_)
    · obtain ⟨⟨x1, x2⟩, x3⟩ := nxT_is xs ws i (xs.length - 1 - i)
      (repeat (first | refine gst (hk := ?_) | (show GO _ _ _ _ _ (⟨some _, none, .call _ _⟩ :: _) _; first | (refine go_callp rfl code_impl_ValidLoads.callable (fun H hH => implValidLoads_ok (hH.ints (by exact Has.auto)) (hH.ints (by exact Has.auto)) (by omega) (by omega)) ?_)) | (show GO _ _ _ _ _ (⟨some _, none, _⟩ :: _) _; first | refine go_op (hk := ?_) | (refine go_nw (hk := ?_); intro u; try simp only [llc, lln, lna, lza]) | (refine go_np (hk := ?_); intro id)) | (show GO _ _ _ _ _ (⟨none, none, _⟩ :: _) _; refine go_st (hk := ?_)) | (show GO _ _ _ _ _ (⟨_, some _, _⟩ :: _) _; first | refine go_in (hk := ?_) | refine go_out (hk := ?_) | refine go_void (hk := ?_)) | (show GK _ _ _ _ (blockK _ _ _); refine gk_past rfl ?_) | (show GC _ _ _ _ _ (.cond _ _ _) _; first | refine gc_yes (h1 := ?_) | refine gc_no (h1 := ?_))))
      refine go_callp rfl code_impl_nextOnHull.callable (fun H hH => nextOnHull_ok (hH.valsA (by exact Has.auto)) hL (by omega)) ?_
      generalize nxT xs ws i (xs.length - 1 - i) = t at *
      obtain ⟨g1, g2⟩ := hon.step hL.asc x1 (by omega) (c := mnR xs ws i (t + 1)) (fun k k1 k2 => by rw [mnR_mnA]; exact x3 k k1 (by omega)) (mnR_mnA _ _ _ _).symm
      (repeat (first | refine gst (hk := ?_) | (show GO _ _ _ _ _ (⟨some _, none, .call _ _⟩ :: _) _; first | (refine go_callp rfl code_impl_ValidLoads.callable (fun H hH => implValidLoads_ok (hH.ints (by exact Has.auto)) (hH.ints (by exact Has.auto)) (by omega) (by omega)) ?_)) | (show GO _ _ _ _ _ (⟨some _, none, _⟩ :: _) _; first | refine go_op (hk := ?_) | (refine go_nw (hk := ?_); intro u; try simp only [llc, lln, lna, lza]) | (refine go_np (hk := ?_); intro id)) | (show GO _ _ _ _ _ (⟨none, none, _⟩ :: _) _; refine go_st (hk := ?_)) | (show GO _ _ _ _ _ (⟨_, some _, _⟩ :: _) _; first | refine go_in (hk := ?_) | refine go_out (hk := ?_) | refine go_void (hk := ?_)) | (show GK _ _ _ _ (blockK _ _ _); refine gk_past rfl ?_) | (show GC _ _ _ _ _ (.cond _ _ _) _; first | refine gc_yes (h1 := ?_) | refine gc_no (h1 := ?_))))
      refine go_calln rfl code_slices_Repeat_impl_Frac_impl_Frac.callable (fun H hH => repeat_ok (q := mnR xs ws i (t + 1)) (c := t + 1 - i) (hH.valsA (by exact Has.rw)) (by omega)) ?_
      intro u2
      refine go_new rfl (stp_appF (v := f) (n := i) (L := fiL xs ws i) (m' := t + 1 - i) (M := List.replicate (t + 1 - i) (mnR xs ws i (t + 1))) rfl rfl (by exact Sel.auto) (by exact Has.auto) (by omega)) ?_
      intro u3
      rw [← fiL_rep (by omega) (fun j j1 j2 => (g1 j j1 (by omega)).fit hL.asc), show i + (t + 1 - i) = t + 1 by omega]
      (repeat (first | refine gst (hk := ?_) | (show GO _ _ _ _ _ (⟨some _, none, .call _ _⟩ :: _) _; first | (refine go_callp rfl code_impl_ValidLoads.callable (fun H hH => implValidLoads_ok (hH.ints (by exact Has.auto)) (hH.ints (by exact Has.auto)) (by omega) (by omega)) ?_)) | (show GO _ _ _ _ _ (⟨some _, none, _⟩ :: _) _; first | refine go_op (hk := ?_) | (refine go_nw (hk := ?_); intro u; try simp only [llc, lln, lna, lza]) | (refine go_np (hk := ?_); intro id)) | (show GO _ _ _ _ _ (⟨none, none, _⟩ :: _) _; refine go_st (hk := ?_)) | (show GO _ _ _ _ _ (⟨_, some _, _⟩ :: _) _; first | refine go_in (hk := ?_) | refine go_out (hk := ?_) | refine go_void (hk := ?_)) | (show GK _ _ _ _ (blockK _ _ _); refine gk_past rfl ?_) | (show GC _ _ _ _ _ (.cond _ _ _) _; first | refine gc_yes (h1 := ?_) | refine gc_no (h1 := ?_))))
      exact gk_next (hk2 (t + 1, u3) ⟨by dsimp only; omega, g2⟩ (by dsimp only; omega))
    · obtain rfl : i = xs.length := by omega
      (repeat (first | refine gst (hk := ?_) | (show GO _ _ _ _ _ (⟨some _, none, .call _ _⟩ :: _) _; first | (refine go_callp rfl code_impl_ValidLoads.callable (fun H hH => implValidLoads_ok (hH.ints (by exact Has.auto)) (hH.ints (by exact Has.auto)) (by omega) (by omega)) ?_)) | (show GO _ _ _ _ _ (⟨some _, none, _⟩ :: _) _; first | refine go_op (hk := ?_) | (refine go_nw (hk := ?_); intro u; try simp only [llc, lln, lna, lza]) | (refine go_np (hk := ?_); intro id)) | (show GO _ _ _ _ _ (⟨none, none, _⟩ :: _) _; refine go_st (hk := ?_)) | (show GO _ _ _ _ _ (⟨_, some _, _⟩ :: _) _; first | refine go_in (hk := ?_) | refine go_out (hk := ?_) | refine go_void (hk := ?_)) | (show GK _ _ _ _ (blockK _ _ _); refine gk_past rfl ?_) | (show GC _ _ _ _ _ (.cond _ _ _) _; first | refine gc_yes (h1 := ?_) | refine gc_no (h1 := ?_))))
      exact gk_ret rfl fun H' hH => hH.give (by exact Sel.auto)

theorem riO_le (xs ws : List Int) : (riO xs ws).length ≤ 8 := by
  unfold riO
  split
  · rename_i h
    have := h.2.2.2.2; rw [fiL_len]; omega
  · simp

theorem mem_fiL {xs ws : List Int} {q : Rat} : ∀ {k}, q ∈ fiL xs ws k → ∃ j, j < k ∧ q = fiR xs ws j
  | 0, h => by simp [fiL] at h
  | k + 1, h => by
    rw [fiL, List.mem_append, List.mem_singleton] at h
    rcases h with h | h
    · obtain ⟨j, h1, h2⟩ := mem_fiL h
      exact ⟨j, by omega, h2⟩
    · exact ⟨k, by omega, h⟩

theorem riO_fits (xs ws : List Int) : Fits (riO xs ws) := by
  unfold riO
  split
  · rename_i hL
    intro p hp q hq
    obtain ⟨i, h1, rfl⟩ := mem_fiL hp
    obtain ⟨j, h2, rfl⟩ := mem_fiL hq
    obtain ⟨a, b, g1, g2, g3, g4⟩ := hL.fit_is h1
    obtain ⟨c, d, k1, k2, k3, k4⟩ := hL.fit_is h2
    rw [g4, k4]
    exact hL.fits (by omega) g3 (by omega) k3
  · intro p hp; cases hp

theorem riO_rise (xs ws : List Int) : RisF (riO xs ws) := by
  intro k hk
  unfold riO at hk ⊢
  split at hk
  · rename_i hL
    rw [if_pos hL]
    rw [fiL_len] at hk
    rw [nth_fiL (by omega), nth_fiL (by omega)]
    exact Rat.not_lt.2 (hL.fit_up hk)
  · simp at hk

theorem lawFnRiseByBlocks_ok {H : Heap} {a : AV} {bs : List Int} (ha : Vals H a 1 bs.length (bs.map (.int .u8))) (hw : ∀ x ∈ bs, (Lit.int .u8 x).wf = true) : ACalls Try.prog fn_laws_FnRiseByBlocks [a] H fun r _ => r = .bool true := by
  have hb := bytes_of hw
  refine code_laws_FnRiseByBlocks.go [byt a bs] ⟨⟨rfl, ha⟩, trivial⟩ (by simp) ?_
  unfold mc_laws_FnRiseByBlocks
  (repeat (first | refine gst (hk := ?_) | (show GO _ _ _ _ _ (⟨some _, none, .call _ _⟩ :: _) _; first | (refine go_callg rfl code_spec_DrawRiseByBlocks.callable (fun H hH => drawRiseByBlocks_ok hH (by exact Has.auto) (by assumption) (by omega)) ?_; intro g hg) | (refine go_calln rfl code_impl_RiseByBlocks.callable (fun H hH => implRiseByBlocks_ok (hH.ints (by exact Has.auto)) (hH.ints (by exact Has.auto)) (by omega) (by omega)) ?_; intro u) | (refine go_calln rfl code_spec_RiseByBlocks.callable (fun H hH => specRiseByBlocks_ok (hH.ints (by exact Has.auto)) (hH.ints (by exact Has.auto)) (by omega) (by omega)) ?_; intro u) | (refine go_callp rfl code_laws_equalFracs.callable (fun H hH => equalFracs_ok (hH.valsA (by exact Has.auto)) (hH.valsA (by exact Has.auto)) (by omega) (by omega)) ?_) | (refine go_calln rfl code_impl_RiseByMeans.callable (fun H hH => implRiseByMeans_ok (hH.ints (by exact Has.auto)) (hH.ints (by exact Has.auto)) (by omega) (by omega)) ?_; intro u) | (refine go_calln rfl code_impl_RiseByHull.callable (fun H hH => implRiseByHull_ok (hH.ints (by exact Has.auto)) (hH.ints (by exact Has.auto)) (by omega) (by omega)) ?_; intro u) | (refine go_callp rfl code_laws_rising.callable (fun H hH => rising_ok (hH.valsA (by exact Has.auto)) (by omega) (by assumption)) ?_)) | (show GO _ _ _ _ _ (⟨some _, none, _⟩ :: _) _; first | refine go_op (hk := ?_) | (refine go_nw (hk := ?_); intro u; try simp only [llc, lln, lna, lza]) | (refine go_np (hk := ?_); intro id)) | (show GO _ _ _ _ _ (⟨none, none, _⟩ :: _) _; refine go_st (hk := ?_)) | (show GO _ _ _ _ _ (⟨_, some _, _⟩ :: _) _; first | refine go_in (hk := ?_) | refine go_out (hk := ?_) | refine go_void (hk := ?_)) | (show GK _ _ _ _ (blockK _ _ _); refine gk_past rfl ?_) | (show GC _ _ _ _ _ (.cond _ _ _) _; first | refine gc_yes (h1 := ?_) | refine gc_no (h1 := ?_))))
  refine gc_cond rfl (fun h => ?_) (fun h => ?_)
  · (repeat (first | refine gst (hk := ?_) | (show GO _ _ _ _ _ (⟨some _, none, .call _ _⟩ :: _) _; first | (refine go_callg rfl code_spec_DrawRiseByBlocks.callable (fun H hH => drawRiseByBlocks_ok hH (by exact Has.auto) (by assumption) (by omega)) ?_; intro g hg) | (refine go_calln rfl code_impl_RiseByBlocks.callable (fun H hH => implRiseByBlocks_ok (hH.ints (by exact Has.auto)) (hH.ints (by exact Has.auto)) (by omega) (by omega)) ?_; intro u) | (refine go_calln rfl code_spec_RiseByBlocks.callable (fun H hH => specRiseByBlocks_ok (hH.ints (by exact Has.auto)) (hH.ints (by exact Has.auto)) (by omega) (by omega)) ?_; intro u) | (refine go_callp rfl code_laws_equalFracs.callable (fun H hH => equalFracs_ok (hH.valsA (by exact Has.auto)) (hH.valsA (by exact Has.auto)) (by omega) (by omega)) ?_) | (refine go_calln rfl code_impl_RiseByMeans.callable (fun H hH => implRiseByMeans_ok (hH.ints (by exact Has.auto)) (hH.ints (by exact Has.auto)) (by omega) (by omega)) ?_; intro u) | (refine go_calln rfl code_impl_RiseByHull.callable (fun H hH => implRiseByHull_ok (hH.ints (by exact Has.auto)) (hH.ints (by exact Has.auto)) (by omega) (by omega)) ?_; intro u) | (refine go_callp rfl code_laws_rising.callable (fun H hH => rising_ok (hH.valsA (by exact Has.auto)) (by omega) (by assumption)) ?_)) | (show GO _ _ _ _ _ (⟨some _, none, _⟩ :: _) _; first | refine go_op (hk := ?_) | (refine go_nw (hk := ?_); intro u; try simp only [llc, lln, lna, lza]) | (refine go_np (hk := ?_); intro id)) | (show GO _ _ _ _ _ (⟨none, none, _⟩ :: _) _; refine go_st (hk := ?_)) | (show GO _ _ _ _ _ (⟨_, some _, _⟩ :: _) _; first | refine go_in (hk := ?_) | refine go_out (hk := ?_) | refine go_void (hk := ?_)) | (show GK _ _ _ _ (blockK _ _ _); refine gk_past rfl ?_) | (show GC _ _ _ _ _ (.cond _ _ _) _; first | refine gc_yes (h1 := ?_) | refine gc_no (h1 := ?_))))
    exact gk_ret rfl fun H' hH => rfl
  (repeat (first | refine gst (hk := ?_) | (show GO _ _ _ _ _ (⟨some _, none, .call _ _⟩ :: _) _; first | (refine go_callg rfl code_spec_DrawRiseByBlocks.callable (fun H hH => drawRiseByBlocks_ok hH (by exact Has.auto) (by assumption) (by omega)) ?_; intro g hg) | (refine go_calln rfl code_impl_RiseByBlocks.callable (fun H hH => implRiseByBlocks_ok (hH.ints (by exact Has.auto)) (hH.ints (by exact Has.auto)) (by omega) (by omega)) ?_; intro u) | (refine go_calln rfl code_spec_RiseByBlocks.callable (fun H hH => specRiseByBlocks_ok (hH.ints (by exact Has.auto)) (hH.ints (by exact Has.auto)) (by omega) (by omega)) ?_; intro u) | (refine go_callp rfl code_laws_equalFracs.callable (fun H hH => equalFracs_ok (hH.valsA (by exact Has.auto)) (hH.valsA (by exact Has.auto)) (by omega) (by omega)) ?_) | (refine go_calln rfl code_impl_RiseByMeans.callable (fun H hH => implRiseByMeans_ok (hH.ints (by exact Has.auto)) (hH.ints (by exact Has.auto)) (by omega) (by omega)) ?_; intro u) | (refine go_calln rfl code_impl_RiseByHull.callable (fun H hH => implRiseByHull_ok (hH.ints (by exact Has.auto)) (hH.ints (by exact Has.auto)) (by omega) (by omega)) ?_; intro u) | (refine go_callp rfl code_laws_rising.callable (fun H hH => rising_ok (hH.valsA (by exact Has.auto)) (by omega) (by assumption)) ?_)) | (show GO _ _ _ _ _ (⟨some _, none, _⟩ :: _) _; first | refine go_op (hk := ?_) | (refine go_nw (hk := ?_); intro u; try simp only [llc, lln, lna, lza]) | (refine go_np (hk := ?_); intro id)) | (show GO _ _ _ _ _ (⟨none, none, _⟩ :: _) _; refine go_st (hk := ?_)) | (show GO _ _ _ _ _ (⟨_, some _, _⟩ :: _) _; first | refine go_in (hk := ?_) | refine go_out (hk := ?_) | refine go_void (hk := ?_)) | (show GK _ _ _ _ (blockK _ _ _); refine gk_past rfl ?_) | (show GC _ _ _ _ _ (.cond _ _ _) _; first | refine gc_yes (h1 := ?_) | refine gc_no (h1 := ?_))))
  obtain ⟨gu, gv, xs, ws, gq⟩ := g
  simp only at hg ⊢
  have hle := riO_le xs ws
  have hfit := riO_fits xs ws
  have hris := riO_rise xs ws
  (repeat (first | refine gst (hk := ?_) | (show GO _ _ _ _ _ (⟨some _, none, .call _ _⟩ :: _) _; first | (refine go_callg rfl code_spec_DrawRiseByBlocks.callable (fun H hH => drawRiseByBlocks_ok hH (by exact Has.auto) (by assumption) (by omega)) ?_; intro g hg) | (refine go_calln rfl code_impl_RiseByBlocks.callable (fun H hH => implRiseByBlocks_ok (hH.ints (by exact Has.auto)) (hH.ints (by exact Has.auto)) (by omega) (by omega)) ?_; intro u) | (refine go_calln rfl code_spec_RiseByBlocks.callable (fun H hH => specRiseByBlocks_ok (hH.ints (by exact Has.auto)) (hH.ints (by exact Has.auto)) (by omega) (by omega)) ?_; intro u) | (refine go_callp rfl code_laws_equalFracs.callable (fun H hH => equalFracs_ok (hH.valsA (by exact Has.auto)) (hH.valsA (by exact Has.auto)) (by omega) (by omega)) ?_) | (refine go_calln rfl code_impl_RiseByMeans.callable (fun H hH => implRiseByMeans_ok (hH.ints (by exact Has.auto)) (hH.ints (by exact Has.auto)) (by omega) (by omega)) ?_; intro u) | (refine go_calln rfl code_impl_RiseByHull.callable (fun H hH => implRiseByHull_ok (hH.ints (by exact Has.auto)) (hH.ints (by exact Has.auto)) (by omega) (by omega)) ?_; intro u) | (refine go_callp rfl code_laws_rising.callable (fun H hH => rising_ok (hH.valsA (by exact Has.auto)) (by omega) (by assumption)) ?_)) | (show GO _ _ _ _ _ (⟨some _, none, _⟩ :: _) _; first | refine go_op (hk := ?_) | (refine go_nw (hk := ?_); intro u; try simp only [llc, lln, lna, lza]) | (refine go_np (hk := ?_); intro id)) | (show GO _ _ _ _ _ (⟨none, none, _⟩ :: _) _; refine go_st (hk := ?_)) | (show GO _ _ _ _ _ (⟨_, some _, _⟩ :: _) _; first | refine go_in (hk := ?_) | refine go_out (hk := ?_) | refine go_void (hk := ?_)) | (show GK _ _ _ _ (blockK _ _ _); refine gk_past rfl ?_) | (show GC _ _ _ _ _ (.cond _ _ _) _; first | refine gc_yes (h1 := ?_) | refine gc_no (h1 := ?_))))
  refine go_split 23 rfl (fun hc => absurd rfl hc) (fun _ => ?_)
  (repeat (first | refine gst (hk := ?_) | (show GO _ _ _ _ _ (⟨some _, none, .call _ _⟩ :: _) _; first | (refine go_callg rfl code_spec_DrawRiseByBlocks.callable (fun H hH => drawRiseByBlocks_ok hH (by exact Has.auto) (by assumption) (by omega)) ?_; intro g hg) | (refine go_calln rfl code_impl_RiseByBlocks.callable (fun H hH => implRiseByBlocks_ok (hH.ints (by exact Has.auto)) (hH.ints (by exact Has.auto)) (by omega) (by omega)) ?_; intro u) | (refine go_calln rfl code_spec_RiseByBlocks.callable (fun H hH => specRiseByBlocks_ok (hH.ints (by exact Has.auto)) (hH.ints (by exact Has.auto)) (by omega) (by omega)) ?_; intro u) | (refine go_callp rfl code_laws_equalFracs.callable (fun H hH => equalFracs_ok (hH.valsA (by exact Has.auto)) (hH.valsA (by exact Has.auto)) (by omega) (by omega)) ?_) | (refine go_calln rfl code_impl_RiseByMeans.callable (fun H hH => implRiseByMeans_ok (hH.ints (by exact Has.auto)) (hH.ints (by exact Has.auto)) (by omega) (by omega)) ?_; intro u) | (refine go_calln rfl code_impl_RiseByHull.callable (fun H hH => implRiseByHull_ok (hH.ints (by exact Has.auto)) (hH.ints (by exact Has.auto)) (by omega) (by omega)) ?_; intro u) | (refine go_callp rfl code_laws_rising.callable (fun H hH => rising_ok (hH.valsA (by exact Has.auto)) (by omega) (by assumption)) ?_)) | (show GO _ _ _ _ _ (⟨some _, none, _⟩ :: _) _; first | refine go_op (hk := ?_) | (refine go_nw (hk := ?_); intro u; try simp only [llc, lln, lna, lza]) | (refine go_np (hk := ?_); intro id)) | (show GO _ _ _ _ _ (⟨none, none, _⟩ :: _) _; refine go_st (hk := ?_)) | (show GO _ _ _ _ _ (⟨_, some _, _⟩ :: _) _; first | refine go_in (hk := ?_) | refine go_out (hk := ?_) | refine go_void (hk := ?_)) | (show GK _ _ _ _ (blockK _ _ _); refine gk_past rfl ?_) | (show GC _ _ _ _ _ (.cond _ _ _) _; first | refine gc_yes (h1 := ?_) | refine gc_no (h1 := ?_))))
  refine gc_cond rfl (fun h2 => ?_) (fun h2 => ?_)
  · (repeat (first | refine gst (hk := ?_) | (show GO _ _ _ _ _ (⟨some _, none, .call _ _⟩ :: _) _; first | (refine go_callg rfl code_spec_DrawRiseByBlocks.callable (fun H hH => drawRiseByBlocks_ok hH (by exact Has.auto) (by assumption) (by omega)) ?_; intro g hg) | (refine go_calln rfl code_impl_RiseByBlocks.callable (fun H hH => implRiseByBlocks_ok (hH.ints (by exact Has.auto)) (hH.ints (by exact Has.auto)) (by omega) (by omega)) ?_; intro u) | (refine go_calln rfl code_spec_RiseByBlocks.callable (fun H hH => specRiseByBlocks_ok (hH.ints (by exact Has.auto)) (hH.ints (by exact Has.auto)) (by omega) (by omega)) ?_; intro u) | (refine go_callp rfl code_laws_equalFracs.callable (fun H hH => equalFracs_ok (hH.valsA (by exact Has.auto)) (hH.valsA (by exact Has.auto)) (by omega) (by omega)) ?_) | (refine go_calln rfl code_impl_RiseByMeans.callable (fun H hH => implRiseByMeans_ok (hH.ints (by exact Has.auto)) (hH.ints (by exact Has.auto)) (by omega) (by omega)) ?_; intro u) | (refine go_calln rfl code_impl_RiseByHull.callable (fun H hH => implRiseByHull_ok (hH.ints (by exact Has.auto)) (hH.ints (by exact Has.auto)) (by omega) (by omega)) ?_; intro u) | (refine go_callp rfl code_laws_rising.callable (fun H hH => rising_ok (hH.valsA (by exact Has.auto)) (by omega) (by assumption)) ?_)) | (show GO _ _ _ _ _ (⟨some _, none, _⟩ :: _) _; first | refine go_op (hk := ?_) | (refine go_nw (hk := ?_); intro u; try simp only [llc, lln, lna, lza]) | (refine go_np (hk := ?_); intro id)) | (show GO _ _ _ _ _ (⟨none, none, _⟩ :: _) _; refine go_st (hk := ?_)) | (show GO _ _ _ _ _ (⟨_, some _, _⟩ :: _) _; first | refine go_in (hk := ?_) | refine go_out (hk := ?_) | refine go_void (hk := ?_)) | (show GK _ _ _ _ (blockK _ _ _); refine gk_past rfl ?_) | (show GC _ _ _ _ _ (.cond _ _ _) _; first | refine gc_yes (h1 := ?_) | refine gc_no (h1 := ?_))))
    exact gk_ret rfl fun H' hH => by simp [tupleOf]
  (repeat (first | refine gst (hk := ?_) | (show GO _ _ _ _ _ (⟨some _, none, .call _ _⟩ :: _) _; first | (refine go_callg rfl code_spec_DrawRiseByBlocks.callable (fun H hH => drawRiseByBlocks_ok hH (by exact Has.auto) (by assumption) (by omega)) ?_; intro g hg) | (refine go_calln rfl code_impl_RiseByBlocks.callable (fun H hH => implRiseByBlocks_ok (hH.ints (by exact Has.auto)) (hH.ints (by exact Has.auto)) (by omega) (by omega)) ?_; intro u) | (refine go_calln rfl code_spec_RiseByBlocks.callable (fun H hH => specRiseByBlocks_ok (hH.ints (by exact Has.auto)) (hH.ints (by exact Has.auto)) (by omega) (by omega)) ?_; intro u) | (refine go_callp rfl code_laws_equalFracs.callable (fun H hH => equalFracs_ok (hH.valsA (by exact Has.auto)) (hH.valsA (by exact Has.auto)) (by omega) (by omega)) ?_) | (refine go_calln rfl code_impl_RiseByMeans.callable (fun H hH => implRiseByMeans_ok (hH.ints (by exact Has.auto)) (hH.ints (by exact Has.auto)) (by omega) (by omega)) ?_; intro u) | (refine go_calln rfl code_impl_RiseByHull.callable (fun H hH => implRiseByHull_ok (hH.ints (by exact Has.auto)) (hH.ints (by exact Has.auto)) (by omega) (by omega)) ?_; intro u) | (refine go_callp rfl code_laws_rising.callable (fun H hH => rising_ok (hH.valsA (by exact Has.auto)) (by omega) (by assumption)) ?_)) | (show GO _ _ _ _ _ (⟨some _, none, _⟩ :: _) _; first | refine go_op (hk := ?_) | (refine go_nw (hk := ?_); intro u; try simp only [llc, lln, lna, lza]) | (refine go_np (hk := ?_); intro id)) | (show GO _ _ _ _ _ (⟨none, none, _⟩ :: _) _; refine go_st (hk := ?_)) | (show GO _ _ _ _ _ (⟨_, some _, _⟩ :: _) _; first | refine go_in (hk := ?_) | refine go_out (hk := ?_) | refine go_void (hk := ?_)) | (show GK _ _ _ _ (blockK _ _ _); refine gk_past rfl ?_) | (show GC _ _ _ _ _ (.cond _ _ _) _; first | refine gc_yes (h1 := ?_) | refine gc_no (h1 := ?_))))
  refine go_split 38 rfl (fun _ => ?_) (fun hc => absurd rfl hc)
  (repeat (first | refine gst (hk := ?_) | (show GO _ _ _ _ _ (⟨some _, none, .call _ _⟩ :: _) _; first | (refine go_callg rfl code_spec_DrawRiseByBlocks.callable (fun H hH => drawRiseByBlocks_ok hH (by exact Has.auto) (by assumption) (by omega)) ?_; intro g hg) | (refine go_calln rfl code_impl_RiseByBlocks.callable (fun H hH => implRiseByBlocks_ok (hH.ints (by exact Has.auto)) (hH.ints (by exact Has.auto)) (by omega) (by omega)) ?_; intro u) | (refine go_calln rfl code_spec_RiseByBlocks.callable (fun H hH => specRiseByBlocks_ok (hH.ints (by exact Has.auto)) (hH.ints (by exact Has.auto)) (by omega) (by omega)) ?_; intro u) | (refine go_callp rfl code_laws_equalFracs.callable (fun H hH => equalFracs_ok (hH.valsA (by exact Has.auto)) (hH.valsA (by exact Has.auto)) (by omega) (by omega)) ?_) | (refine go_calln rfl code_impl_RiseByMeans.callable (fun H hH => implRiseByMeans_ok (hH.ints (by exact Has.auto)) (hH.ints (by exact Has.auto)) (by omega) (by omega)) ?_; intro u) | (refine go_calln rfl code_impl_RiseByHull.callable (fun H hH => implRiseByHull_ok (hH.ints (by exact Has.auto)) (hH.ints (by exact Has.auto)) (by omega) (by omega)) ?_; intro u) | (refine go_callp rfl code_laws_rising.callable (fun H hH => rising_ok (hH.valsA (by exact Has.auto)) (by omega) (by assumption)) ?_)) | (show GO _ _ _ _ _ (⟨some _, none, _⟩ :: _) _; first | refine go_op (hk := ?_) | (refine go_nw (hk := ?_); intro u; try simp only [llc, lln, lna, lza]) | (refine go_np (hk := ?_); intro id)) | (show GO _ _ _ _ _ (⟨none, none, _⟩ :: _) _; refine go_st (hk := ?_)) | (show GO _ _ _ _ _ (⟨_, some _, _⟩ :: _) _; first | refine go_in (hk := ?_) | refine go_out (hk := ?_) | refine go_void (hk := ?_)) | (show GK _ _ _ _ (blockK _ _ _); refine gk_past rfl ?_) | (show GC _ _ _ _ _ (.cond _ _ _) _; first | refine gc_yes (h1 := ?_) | refine gc_no (h1 := ?_))))
  refine go_split 45 rfl (fun _ => ?_) (fun hc => absurd rfl hc)
  (repeat (first | refine gst (hk := ?_) | (show GO _ _ _ _ _ (⟨some _, none, .call _ _⟩ :: _) _; first | (refine go_callg rfl code_spec_DrawRiseByBlocks.callable (fun H hH => drawRiseByBlocks_ok hH (by exact Has.auto) (by assumption) (by omega)) ?_; intro g hg) | (refine go_calln rfl code_impl_RiseByBlocks.callable (fun H hH => implRiseByBlocks_ok (hH.ints (by exact Has.auto)) (hH.ints (by exact Has.auto)) (by omega) (by omega)) ?_; intro u) | (refine go_calln rfl code_spec_RiseByBlocks.callable (fun H hH => specRiseByBlocks_ok (hH.ints (by exact Has.auto)) (hH.ints (by exact Has.auto)) (by omega) (by omega)) ?_; intro u) | (refine go_callp rfl code_laws_equalFracs.callable (fun H hH => equalFracs_ok (hH.valsA (by exact Has.auto)) (hH.valsA (by exact Has.auto)) (by omega) (by omega)) ?_) | (refine go_calln rfl code_impl_RiseByMeans.callable (fun H hH => implRiseByMeans_ok (hH.ints (by exact Has.auto)) (hH.ints (by exact Has.auto)) (by omega) (by omega)) ?_; intro u) | (refine go_calln rfl code_impl_RiseByHull.callable (fun H hH => implRiseByHull_ok (hH.ints (by exact Has.auto)) (hH.ints (by exact Has.auto)) (by omega) (by omega)) ?_; intro u) | (refine go_callp rfl code_laws_rising.callable (fun H hH => rising_ok (hH.valsA (by exact Has.auto)) (by omega) (by assumption)) ?_)) | (show GO _ _ _ _ _ (⟨some _, none, _⟩ :: _) _; first | refine go_op (hk := ?_) | (refine go_nw (hk := ?_); intro u; try simp only [llc, lln, lna, lza]) | (refine go_np (hk := ?_); intro id)) | (show GO _ _ _ _ _ (⟨none, none, _⟩ :: _) _; refine go_st (hk := ?_)) | (show GO _ _ _ _ _ (⟨_, some _, _⟩ :: _) _; first | refine go_in (hk := ?_) | refine go_out (hk := ?_) | refine go_void (hk := ?_)) | (show GK _ _ _ _ (blockK _ _ _); refine gk_past rfl ?_) | (show GC _ _ _ _ _ (.cond _ _ _) _; first | refine gc_yes (h1 := ?_) | refine gc_no (h1 := ?_))))
  exact gk_ret rfl fun H' hH => by simp [tupleOf, hris]

structure Cst {α : Type} (op : α → α → α) (le : α → α → Prop) : Prop where
  assoc : ∀ a b c, op (op a b) c = op a (op b c)
  comm : ∀ a b, op a b = op b a
  mono : ∀ {a b} c, le a b → le (op a c) (op b c)
  refl : ∀ a, le a a
  trans : ∀ {a b c}, le a b → le b c → le a c
  anti : ∀ {a b}, le a b → le b a → a = b

inductive Cuts {α : Type} (op : α → α → α) (c : Nat → Nat → α) : Nat → Nat → Nat → α → Prop
  | one {i k : Nat} (h : i < k) : Cuts op c 1 i k (c i k)
  | snoc {p i m k : Nat} {v : α} (h : Cuts op c p i m v) (hk : m < k) : Cuts op c (p + 1) i k (op v (c m k))

theorem Cuts.lt {α : Type} {op : α → α → α} {c : Nat → Nat → α} {p i k : Nat} {v : α} (h : Cuts op c p i k v) : i < k ∧ 1 ≤ p ∧ i + p ≤ k := by
  induction h with
  | one h => omega
  | snoc h hk ih => omega

theorem Cuts.cons {α : Type} {op : α → α → α} {le : α → α → Prop} (hc : Cst op le) {c : Nat → Nat → α} {p i m k : Nat} {v : α} (hi : i < m) (h : Cuts op c p m k v) : Cuts op c (p + 1) i k (op (c i m) v) := by
  induction h with
  | one h => exact .snoc (.one hi) h
  | snoc h hk ih => rw [← hc.assoc]; exact .snoc (ih hi) hk

def LeastC {α : Type} (op : α → α → α) (le : α → α → Prop) (c : Nat → Nat → α) (P i k : Nat) (v : α) : Prop := (∃ q, q ≤ P ∧ Cuts op c q i k v) ∧ ∀ q w, q ≤ P → Cuts op c q i k w → le v w

theorem LeastC.uniq {α : Type} {op : α → α → α} {le : α → α → Prop} (hc : Cst op le) {c : Nat → Nat → α} {P i k : Nat} {v w : α} (h : LeastC op le c P i k v) (h' : LeastC op le c P i k w) : v = w := by
  obtain ⟨⟨q, h1, h2⟩, h3⟩ := h
  obtain ⟨⟨q', h1', h2'⟩, h3'⟩ := h'
  exact hc.anti (h3 _ _ h1' h2') (h3' _ _ h1 h2)

theorem LeastC.pos {α : Type} {op : α → α → α} {le : α → α → Prop} {c : Nat → Nat → α} {P i k : Nat} {v : α} (h : LeastC op le c P i k v) : 1 ≤ P ∧ i < k := by
  obtain ⟨⟨q, h1, h2⟩, _⟩ := h
  have := h2.lt
  omega

theorem LeastC.congr {α : Type} {op : α → α → α} {le : α → α → Prop} {c d : Nat → Nat → α} {n P : Nat} (hd : ∀ i k, i < k → k ≤ n → d i k = c i k) {v : α} (h : LeastC op le d P 0 n v) : LeastC op le c P 0 n v := by
  have key : ∀ {c d : Nat → Nat → α}, (∀ i k, i < k → k ≤ n → d i k = c i k) → ∀ {p i k : Nat} {v : α}, Cuts op d p i k v → k ≤ n → Cuts op c p i k v := by
    intro c d hd p i k v h
    induction h with
    | one h => intro hk; rw [hd _ _ h hk]; exact .one h
    | snoc h hmk ih => intro hk; rw [hd _ _ hmk hk]; exact .snoc (ih (by omega)) hmk
  obtain ⟨⟨q, h1, h2⟩, h3⟩ := h
  exact ⟨⟨q, h1, key hd h2 (Nat.le_refl _)⟩, fun q w hq hw => h3 q w hq (key (fun i k h1 h2 => (hd i k h1 h2).symm) hw (Nat.le_refl _))⟩

theorem Steps.back {xs : List Int} (h : Steps xs) : Steps xs.reverse := ⟨fun x hx => h.1 x (List.mem_reverse.1 hx), by simpa using h.2.1, by simpa using h.2.2⟩

theorem Steps.neg {xs : List Int} (h : Steps xs) : Steps (negL xs) := ⟨fun x hx => by
  unfold negL at hx
  obtain ⟨y, hy, rfl⟩ := List.mem_map.1 hx
  have := h.1 y hy
  omega, by rw [negL_length]; exact h.2.1, by rw [negL_length]; exact h.2.2⟩

def MpO (ob : Nat → Option OB) (id : Nat) (es : List ME) (clk : Nat) : Prop := ∃ o, ob id = some o ∧ o.mo = some (.map es clk)

def seo (ob : Nat → Option OB) (id : Nat) (o : OB) : Nat → Option OB := fun i => if i = id then some o else ob i

theorem mp_other {ob : Nat → Option OB} {id j : Nat} {es : List ME} {clk : Nat} {o : OB} (h : MpO ob j es clk) (hn : j ≠ id) : MpO (seo ob id o) j es clk := by
  obtain ⟨x, h1, h2⟩ := h
  exact ⟨x, by simp only [seo]; rw [if_neg hn]; exact h1, h2⟩

/-- what was there is there, but for some -/
def ExO (ob0 ob : Nat → Option OB) (I : List Nat) : Prop := ∀ j o, j ∉ I → ob0 j = some o → ob j = some o

theorem ExO.refl (ob : Nat → Option OB) (I : List Nat) : ExO ob ob I := fun _ _ _ h => h

theorem ExO.new {ob0 ob : Nat → Option OB} {I : List Nat} (h : ExO ob0 ob I) {id : Nat} (hn : ob id = none) (o : OB) : ExO ob0 (seo ob id o) I := fun j p h1 h2 => by
  have h3 := h j p h1 h2
  have : j ≠ id := by rintro rfl; rw [hn] at h3; cases h3
  simp only [seo]; rw [if_neg this]; exact h3

theorem ExO.mod {ob0 ob : Nat → Option OB} {I : List Nat} (h : ExO ob0 ob I) {id : Nat} (hn : ob0 id = none ∨ id ∈ I) (o : OB) : ExO ob0 (seo ob id o) I := fun j p h1 h2 => by
  have : j ≠ id := by
    rintro rfl
    rcases hn with hn | hn
    · rw [hn] at h2; cases h2
    · exact h1 hn
  simp only [seo]; rw [if_neg this]; exact h j p h1 h2

structure CE where
  p : Nat
  v : Rat
  b : Nat

def ceM (e : CE) : ME := ⟨.int .i64 (e.p : Int), frV e.v, e.b⟩

def CutsOk (L : List CE) (clk : Nat) : Prop := (L.map CE.b).Nodup ∧ (∀ e ∈ L, e.b < clk) ∧ (L.map CE.p).Nodup

theorem CutsOk.sub {L M : List CE} {clk : Nat} (h : CutsOk L clk) (hs : M.Sublist L) : CutsOk M clk := ⟨(hs.map _).nodup h.1, fun e he => h.2.1 e (hs.subset he), (hs.map _).nodup h.2.2⟩

/-- the stamps that have come -/
def GoneC (L : List CE) (seen : List Nat) : Prop := seen.Nodup ∧ ∀ b ∈ seen, b ∈ L.map CE.b

theorem GoneC.nil (L : List CE) : GoneC L [] := ⟨List.nodup_nil, by simp⟩

theorem GoneC.le {L : List CE} {seen : List Nat} (h : GoneC L seen) : seen.length ≤ L.length := by
  have := h.1.length_le_of_subset (fun b hb => h.2 b hb : seen ⊆ L.map CE.b)
  rwa [List.length_map] at this

theorem GoneC.snoc {L : List CE} {seen : List Nat} (h : GoneC L seen) {e : CE} (he : e ∈ L) (hn : e.b ∉ seen) : GoneC L (seen ++ [e.b]) := by
  refine ⟨?_, fun b hb => ?_⟩
  · rw [List.nodup_append]
    exact ⟨h.1, by simp, fun a ha b hb => by simp only [List.mem_singleton] at hb; subst hb; exact fun h => hn (h ▸ ha)⟩
  · rcases List.mem_append.1 hb with hb | hb
    · exact h.2 b hb
    · simp only [List.mem_singleton] at hb; subst hb; exact List.mem_map.2 ⟨e, he, rfl⟩

theorem GoneC.lt {L : List CE} {seen : List Nat} (h : GoneC L seen) {e : CE} (he : e ∈ L) (hn : e.b ∉ seen) : L.length - (seen ++ [e.b]).length < L.length - seen.length := by
  have := (h.snoc he hn).le
  rw [List.length_append, List.length_singleton] at this ⊢
  omega

/-- the ways that are not beaten, of some -/
def FrontC (L : List CE) (S : Nat → Rat → Prop) : Prop := (∀ e ∈ L, S e.p e.v) ∧ (∀ p v, S p v → ∃ e ∈ L, e.p ≤ p ∧ e.v ≤ v) ∧ ∀ e ∈ L, ∀ e' ∈ L, e.p < e'.p → e'.v < e.v

def SC (c : Nat → Nat → Rat) (i q : Nat) (v : Rat) : Prop := (i = 0 ∧ q = 0 ∧ v = 0) ∨ Cuts (· + ·) c q 0 i v

theorem FrontC.weaken {L : List CE} {S S' : Nat → Rat → Prop} (h : FrontC L S) (h1 : ∀ q v, S q v → S' q v) (h2 : ∀ q v, S' q v → ∃ q0 v0, S q0 v0 ∧ q0 ≤ q ∧ v0 ≤ v) : FrontC L S' := by
  obtain ⟨g1, g2, g3⟩ := h
  refine ⟨fun e he => h1 _ _ (g1 e he), fun q v hq => ?_, g3⟩
  obtain ⟨q0, v0, k1, k2, k3⟩ := h2 q v hq
  obtain ⟨e, m1, m2, m3⟩ := g2 q0 v0 k1
  exact ⟨e, m1, by omega, Rat.le_trans m3 k3⟩

theorem FrontC.same {L : List CE} {S S' : Nat → Rat → Prop} (h : FrontC L S) (h1 : ∀ q v, S q v ↔ S' q v) : FrontC L S' := h.weaken (fun q v => (h1 q v).1) (fun q v hq => ⟨q, v, (h1 q v).2 hq, Nat.le_refl _, Rat.le_refl⟩)

def GoodM (c : Nat → Nat → Rat) (ob : Nat → Option OB) (m i : Nat) : Prop := ∃ L clk, MpO ob m (L.map ceM) clk ∧ CutsOk L clk ∧ FrontC L (SC c i)

theorem GoodM.seo {c : Nat → Nat → Rat} {ob : Nat → Option OB} {m i id : Nat} {o : OB} (h : GoodM c ob m i) (hn : m ≠ id) : GoodM c (seo ob id o) m i := by
  obtain ⟨L, clk, h1, h2⟩ := h
  exact ⟨L, clk, mp_other h1 hn, h2⟩

def SmP (xs : List Int) (i d : Nat) : Prop := ∀ t, i ≤ t → t < i + d → nth xs t = nth xs i

noncomputable instance (xs : List Int) (i d : Nat) : Decidable (SmP xs i d) := Classical.propDecidable _

end Go.Rx.Try
