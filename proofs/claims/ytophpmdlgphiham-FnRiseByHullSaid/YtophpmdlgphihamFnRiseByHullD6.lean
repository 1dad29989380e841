import Derived.Test.YtophpmdlgphihamFnRiseByHullD5
namespace Go.Rx.Try
open Go.Proofs
set_option maxRecDepth 100000
set_option maxHeartbeats 8000000
set_option linter.unusedSimpArgs false
set_option linter.unusedVariables false

theorem lawFnRiseByHull_ok {H : Heap} {a : AV} {bs : List Int} (ha : Vals H a 1 bs.length (bs.map (.int .u8))) (hw : ∀ x ∈ bs, (Lit.int .u8 x).wf = true) : ACalls Try.prog fn_laws_FnRiseByHull [a] H fun r _ => r = .bool true := by
  -- alt: refine go_is rfl (stp_ageqS rfl rfl) ?_
  -- alt: refine go_is rfl (stp_agneS rfl rfl) ?_
  have hb := bytes_of hw
  refine code_laws_FnRiseByHull.go [byt a bs] ⟨⟨rfl, ha⟩, trivial⟩ (by simp) ?_
  unfold mc_laws_FnRiseByHull
  (repeat (first | refine gst (hk := ?_) | (with_reducible refine gc_drq ?_; intro _) | (show GO _ _ _ _ _ (⟨some _, none, .call _ _⟩ :: _) _; first | (refine go_callg rfl code_spec_DrawRiseByHull.callable (fun H hH => drawRiseByHull_ok hH (by exact Has.auto) (by assumption) (by omega)) ?_; intro g hg) | (refine go_calln rfl code_impl_RiseByHull.callable (fun H hH => implRiseByHull_ok (hH.ints (by exact Has.auto)) (hH.ints (by exact Has.auto)) (by omega) (by omega)) ?_; intro u) | (refine go_calln rfl code_spec_RiseByHull.callable (fun H hH => specRiseByHull_ok (hH.ints (by exact Has.auto)) (hH.ints (by exact Has.auto)) (by omega) (by omega)) ?_; intro u) | (refine go_callp rfl code_laws_equalFracs.callable (fun H hH => equalFracs_ok (hH.valsA (by exact Has.auto)) (hH.valsA (by exact Has.auto)) (by omega) (by omega)) ?_) | (refine go_calln rfl code_laws_turned.callable (fun H hH => turned_ok (hH.ints (by exact Has.auto)) (by omega)) ?_; intro u) | (refine go_calln rfl code_laws_negated.callable (fun H hH => negated_ok (hH.ints (by exact Has.auto)) (by omega) (by assumption)) ?_; intro u)) | (refine go_is rfl (stp_ageqS rfl rfl) ?_) | (refine go_is rfl (stp_agneS rfl rfl) ?_) | (show GO _ _ _ _ _ (⟨some _, none, _⟩ :: _) _; first | refine go_op (hk := ?_) | (refine go_nw (hk := ?_); intro u; try simp only [llc, lln, lna, lza]) | (refine go_np (hk := ?_); intro id)) | (show GQ _ _ _ _ _ _ _ (⟨some _, none, _⟩ :: _) _; first | refine gq_op (hk := ?_) | (refine gq_nw (hk := ?_); intro u; try simp only [llc, lln, lna, lza])) | (show GO _ _ _ _ _ (⟨none, none, _⟩ :: _) _; refine go_st (hk := ?_)) | (show GO _ _ _ _ _ (⟨_, some _, _⟩ :: _) _; first | refine go_in (hk := ?_) | refine go_out (hk := ?_) | refine go_void (hk := ?_)) | (show GQ _ _ _ _ _ _ _ (⟨_, some _, _⟩ :: _) _; first | refine gq_in (hk := ?_) | refine gq_out (hk := ?_) | refine gq_void (hk := ?_)) | (show GK _ _ _ _ (blockK _ _ _); refine gk_past rfl ?_) | (show GC _ _ _ _ _ (.cond _ _ _) _; first | refine gc_yes (h1 := ?_) | refine gc_no (h1 := ?_))))
  refine gc_cond rfl (fun h => ?_) (fun h => ?_)
  · (repeat (first | refine gst (hk := ?_) | (with_reducible refine gc_drq ?_; intro _) | (show GO _ _ _ _ _ (⟨some _, none, .call _ _⟩ :: _) _; first | (refine go_callg rfl code_spec_DrawRiseByHull.callable (fun H hH => drawRiseByHull_ok hH (by exact Has.auto) (by assumption) (by omega)) ?_; intro g hg) | (refine go_calln rfl code_impl_RiseByHull.callable (fun H hH => implRiseByHull_ok (hH.ints (by exact Has.auto)) (hH.ints (by exact Has.auto)) (by omega) (by omega)) ?_; intro u) | (refine go_calln rfl code_spec_RiseByHull.callable (fun H hH => specRiseByHull_ok (hH.ints (by exact Has.auto)) (hH.ints (by exact Has.auto)) (by omega) (by omega)) ?_; intro u) | (refine go_callp rfl code_laws_equalFracs.callable (fun H hH => equalFracs_ok (hH.valsA (by exact Has.auto)) (hH.valsA (by exact Has.auto)) (by omega) (by omega)) ?_) | (refine go_calln rfl code_laws_turned.callable (fun H hH => turned_ok (hH.ints (by exact Has.auto)) (by omega)) ?_; intro u) | (refine go_calln rfl code_laws_negated.callable (fun H hH => negated_ok (hH.ints (by exact Has.auto)) (by omega) (by assumption)) ?_; intro u)) | (refine go_is rfl (stp_ageqS rfl rfl) ?_) | (refine go_is rfl (stp_agneS rfl rfl) ?_) | (show GO _ _ _ _ _ (⟨some _, none, _⟩ :: _) _; first | refine go_op (hk := ?_) | (refine go_nw (hk := ?_); intro u; try simp only [llc, lln, lna, lza]) | (refine go_np (hk := ?_); intro id)) | (show GQ _ _ _ _ _ _ _ (⟨some _, none, _⟩ :: _) _; first | refine gq_op (hk := ?_) | (refine gq_nw (hk := ?_); intro u; try simp only [llc, lln, lna, lza])) | (show GO _ _ _ _ _ (⟨none, none, _⟩ :: _) _; refine go_st (hk := ?_)) | (show GO _ _ _ _ _ (⟨_, some _, _⟩ :: _) _; first | refine go_in (hk := ?_) | refine go_out (hk := ?_) | refine go_void (hk := ?_)) | (show GQ _ _ _ _ _ _ _ (⟨_, some _, _⟩ :: _) _; first | refine gq_in (hk := ?_) | refine gq_out (hk := ?_) | refine gq_void (hk := ?_)) | (show GK _ _ _ _ (blockK _ _ _); refine gk_past rfl ?_) | (show GC _ _ _ _ _ (.cond _ _ _) _; first | refine gc_yes (h1 := ?_) | refine gc_no (h1 := ?_))))
    exact gk_ret rfl fun H' hH => rfl
  (repeat (first | refine gst (hk := ?_) | (with_reducible refine gc_drq ?_; intro _) | (show GO _ _ _ _ _ (⟨some _, none, .call _ _⟩ :: _) _; first | (refine go_callg rfl code_spec_DrawRiseByHull.callable (fun H hH => drawRiseByHull_ok hH (by exact Has.auto) (by assumption) (by omega)) ?_; intro g hg) | (refine go_calln rfl code_impl_RiseByHull.callable (fun H hH => implRiseByHull_ok (hH.ints (by exact Has.auto)) (hH.ints (by exact Has.auto)) (by omega) (by omega)) ?_; intro u) | (refine go_calln rfl code_spec_RiseByHull.callable (fun H hH => specRiseByHull_ok (hH.ints (by exact Has.auto)) (hH.ints (by exact Has.auto)) (by omega) (by omega)) ?_; intro u) | (refine go_callp rfl code_laws_equalFracs.callable (fun H hH => equalFracs_ok (hH.valsA (by exact Has.auto)) (hH.valsA (by exact Has.auto)) (by omega) (by omega)) ?_) | (refine go_calln rfl code_laws_turned.callable (fun H hH => turned_ok (hH.ints (by exact Has.auto)) (by omega)) ?_; intro u) | (refine go_calln rfl code_laws_negated.callable (fun H hH => negated_ok (hH.ints (by exact Has.auto)) (by omega) (by assumption)) ?_; intro u)) | (refine go_is rfl (stp_ageqS rfl rfl) ?_) | (refine go_is rfl (stp_agneS rfl rfl) ?_) | (show GO _ _ _ _ _ (⟨some _, none, _⟩ :: _) _; first | refine go_op (hk := ?_) | (refine go_nw (hk := ?_); intro u; try simp only [llc, lln, lna, lza]) | (refine go_np (hk := ?_); intro id)) | (show GQ _ _ _ _ _ _ _ (⟨some _, none, _⟩ :: _) _; first | refine gq_op (hk := ?_) | (refine gq_nw (hk := ?_); intro u; try simp only [llc, lln, lna, lza])) | (show GO _ _ _ _ _ (⟨none, none, _⟩ :: _) _; refine go_st (hk := ?_)) | (show GO _ _ _ _ _ (⟨_, some _, _⟩ :: _) _; first | refine go_in (hk := ?_) | refine go_out (hk := ?_) | refine go_void (hk := ?_)) | (show GQ _ _ _ _ _ _ _ (⟨_, some _, _⟩ :: _) _; first | refine gq_in (hk := ?_) | refine gq_out (hk := ?_) | refine gq_void (hk := ?_)) | (show GK _ _ _ _ (blockK _ _ _); refine gk_past rfl ?_) | (show GC _ _ _ _ _ (.cond _ _ _) _; first | refine gc_yes (h1 := ?_) | refine gc_no (h1 := ?_))))
  obtain ⟨gu, gv, xs, ws, gq⟩ := g
  simp only at hg ⊢
  have hle := riO_le xs ws
  (repeat (first | refine gst (hk := ?_) | (with_reducible refine gc_drq ?_; intro _) | (show GO _ _ _ _ _ (⟨some _, none, .call _ _⟩ :: _) _; first | (refine go_callg rfl code_spec_DrawRiseByHull.callable (fun H hH => drawRiseByHull_ok hH (by exact Has.auto) (by assumption) (by omega)) ?_; intro g hg) | (refine go_calln rfl code_impl_RiseByHull.callable (fun H hH => implRiseByHull_ok (hH.ints (by exact Has.auto)) (hH.ints (by exact Has.auto)) (by omega) (by omega)) ?_; intro u) | (refine go_calln rfl code_spec_RiseByHull.callable (fun H hH => specRiseByHull_ok (hH.ints (by exact Has.auto)) (hH.ints (by exact Has.auto)) (by omega) (by omega)) ?_; intro u) | (refine go_callp rfl code_laws_equalFracs.callable (fun H hH => equalFracs_ok (hH.valsA (by exact Has.auto)) (hH.valsA (by exact Has.auto)) (by omega) (by omega)) ?_) | (refine go_calln rfl code_laws_turned.callable (fun H hH => turned_ok (hH.ints (by exact Has.auto)) (by omega)) ?_; intro u) | (refine go_calln rfl code_laws_negated.callable (fun H hH => negated_ok (hH.ints (by exact Has.auto)) (by omega) (by assumption)) ?_; intro u)) | (refine go_is rfl (stp_ageqS rfl rfl) ?_) | (refine go_is rfl (stp_agneS rfl rfl) ?_) | (show GO _ _ _ _ _ (⟨some _, none, _⟩ :: _) _; first | refine go_op (hk := ?_) | (refine go_nw (hk := ?_); intro u; try simp only [llc, lln, lna, lza]) | (refine go_np (hk := ?_); intro id)) | (show GQ _ _ _ _ _ _ _ (⟨some _, none, _⟩ :: _) _; first | refine gq_op (hk := ?_) | (refine gq_nw (hk := ?_); intro u; try simp only [llc, lln, lna, lza])) | (show GO _ _ _ _ _ (⟨none, none, _⟩ :: _) _; refine go_st (hk := ?_)) | (show GO _ _ _ _ _ (⟨_, some _, _⟩ :: _) _; first | refine go_in (hk := ?_) | refine go_out (hk := ?_) | refine go_void (hk := ?_)) | (show GQ _ _ _ _ _ _ _ (⟨_, some _, _⟩ :: _) _; first | refine gq_in (hk := ?_) | refine gq_out (hk := ?_) | refine gq_void (hk := ?_)) | (show GK _ _ _ _ (blockK _ _ _); refine gk_past rfl ?_) | (show GC _ _ _ _ _ (.cond _ _ _) _; first | refine gc_yes (h1 := ?_) | refine gc_no (h1 := ?_))))
  refine go_split 26 rfl (fun hc => absurd rfl hc) (fun _ => ?_)
  (repeat (first | refine gst (hk := ?_) | (with_reducible refine gc_drq ?_; intro _) | (show GO _ _ _ _ _ (⟨some _, none, .call _ _⟩ :: _) _; first | (refine go_callg rfl code_spec_DrawRiseByHull.callable (fun H hH => drawRiseByHull_ok hH (by exact Has.auto) (by assumption) (by omega)) ?_; intro g hg) | (refine go_calln rfl code_impl_RiseByHull.callable (fun H hH => implRiseByHull_ok (hH.ints (by exact Has.auto)) (hH.ints (by exact Has.auto)) (by omega) (by omega)) ?_; intro u) | (refine go_calln rfl code_spec_RiseByHull.callable (fun H hH => specRiseByHull_ok (hH.ints (by exact Has.auto)) (hH.ints (by exact Has.auto)) (by omega) (by omega)) ?_; intro u) | (refine go_callp rfl code_laws_equalFracs.callable (fun H hH => equalFracs_ok (hH.valsA (by exact Has.auto)) (hH.valsA (by exact Has.auto)) (by omega) (by omega)) ?_) | (refine go_calln rfl code_laws_turned.callable (fun H hH => turned_ok (hH.ints (by exact Has.auto)) (by omega)) ?_; intro u) | (refine go_calln rfl code_laws_negated.callable (fun H hH => negated_ok (hH.ints (by exact Has.auto)) (by omega) (by assumption)) ?_; intro u)) | (refine go_is rfl (stp_ageqS rfl rfl) ?_) | (refine go_is rfl (stp_agneS rfl rfl) ?_) | (show GO _ _ _ _ _ (⟨some _, none, _⟩ :: _) _; first | refine go_op (hk := ?_) | (refine go_nw (hk := ?_); intro u; try simp only [llc, lln, lna, lza]) | (refine go_np (hk := ?_); intro id)) | (show GQ _ _ _ _ _ _ _ (⟨some _, none, _⟩ :: _) _; first | refine gq_op (hk := ?_) | (refine gq_nw (hk := ?_); intro u; try simp only [llc, lln, lna, lza])) | (show GO _ _ _ _ _ (⟨none, none, _⟩ :: _) _; refine go_st (hk := ?_)) | (show GO _ _ _ _ _ (⟨_, some _, _⟩ :: _) _; first | refine go_in (hk := ?_) | refine go_out (hk := ?_) | refine go_void (hk := ?_)) | (show GQ _ _ _ _ _ _ _ (⟨_, some _, _⟩ :: _) _; first | refine gq_in (hk := ?_) | refine gq_out (hk := ?_) | refine gq_void (hk := ?_)) | (show GK _ _ _ _ (blockK _ _ _); refine gk_past rfl ?_) | (show GC _ _ _ _ _ (.cond _ _ _) _; first | refine gc_yes (h1 := ?_) | refine gc_no (h1 := ?_))))
  refine gc_cond rfl (fun h2 => ?_) (fun h2 => ?_)
  · (repeat (first | refine gst (hk := ?_) | (with_reducible refine gc_drq ?_; intro _) | (show GO _ _ _ _ _ (⟨some _, none, .call _ _⟩ :: _) _; first | (refine go_callg rfl code_spec_DrawRiseByHull.callable (fun H hH => drawRiseByHull_ok hH (by exact Has.auto) (by assumption) (by omega)) ?_; intro g hg) | (refine go_calln rfl code_impl_RiseByHull.callable (fun H hH => implRiseByHull_ok (hH.ints (by exact Has.auto)) (hH.ints (by exact Has.auto)) (by omega) (by omega)) ?_; intro u) | (refine go_calln rfl code_spec_RiseByHull.callable (fun H hH => specRiseByHull_ok (hH.ints (by exact Has.auto)) (hH.ints (by exact Has.auto)) (by omega) (by omega)) ?_; intro u) | (refine go_callp rfl code_laws_equalFracs.callable (fun H hH => equalFracs_ok (hH.valsA (by exact Has.auto)) (hH.valsA (by exact Has.auto)) (by omega) (by omega)) ?_) | (refine go_calln rfl code_laws_turned.callable (fun H hH => turned_ok (hH.ints (by exact Has.auto)) (by omega)) ?_; intro u) | (refine go_calln rfl code_laws_negated.callable (fun H hH => negated_ok (hH.ints (by exact Has.auto)) (by omega) (by assumption)) ?_; intro u)) | (refine go_is rfl (stp_ageqS rfl rfl) ?_) | (refine go_is rfl (stp_agneS rfl rfl) ?_) | (show GO _ _ _ _ _ (⟨some _, none, _⟩ :: _) _; first | refine go_op (hk := ?_) | (refine go_nw (hk := ?_); intro u; try simp only [llc, lln, lna, lza]) | (refine go_np (hk := ?_); intro id)) | (show GQ _ _ _ _ _ _ _ (⟨some _, none, _⟩ :: _) _; first | refine gq_op (hk := ?_) | (refine gq_nw (hk := ?_); intro u; try simp only [llc, lln, lna, lza])) | (show GO _ _ _ _ _ (⟨none, none, _⟩ :: _) _; refine go_st (hk := ?_)) | (show GO _ _ _ _ _ (⟨_, some _, _⟩ :: _) _; first | refine go_in (hk := ?_) | refine go_out (hk := ?_) | refine go_void (hk := ?_)) | (show GQ _ _ _ _ _ _ _ (⟨_, some _, _⟩ :: _) _; first | refine gq_in (hk := ?_) | refine gq_out (hk := ?_) | refine gq_void (hk := ?_)) | (show GK _ _ _ _ (blockK _ _ _); refine gk_past rfl ?_) | (show GC _ _ _ _ _ (.cond _ _ _) _; first | refine gc_yes (h1 := ?_) | refine gc_no (h1 := ?_))))
    exact gk_ret rfl fun H' hH => by simp [tupleOf]
  have hL : Loads xs ws := riO_pos (by omega)
  have hl := hL.2.2.1
  have hn := hL.2.2.2.2
  have hbd : Bd 1000000000 xs.reverse := fun x hx => by have := hL.2.1 x (List.mem_reverse.1 hx); omega
  have lr : xs.reverse.length = xs.length := List.length_reverse
  have lw : ws.reverse.length = ws.length := List.length_reverse
  have lm : (xs.reverse.map (- ·)).length = xs.length := by rw [List.length_map, lr]
  have hle2 := riO_le (xs.reverse.map (- ·)) ws.reverse
  have r1 := riO_len hL
  have r2 := riO_len hL.turn
  (repeat (first | refine gst (hk := ?_) | (with_reducible refine gc_drq ?_; intro _) | (show GO _ _ _ _ _ (⟨some _, none, .call _ _⟩ :: _) _; first | (refine go_callg rfl code_spec_DrawRiseByHull.callable (fun H hH => drawRiseByHull_ok hH (by exact Has.auto) (by assumption) (by omega)) ?_; intro g hg) | (refine go_calln rfl code_impl_RiseByHull.callable (fun H hH => implRiseByHull_ok (hH.ints (by exact Has.auto)) (hH.ints (by exact Has.auto)) (by omega) (by omega)) ?_; intro u) | (refine go_calln rfl code_spec_RiseByHull.callable (fun H hH => specRiseByHull_ok (hH.ints (by exact Has.auto)) (hH.ints (by exact Has.auto)) (by omega) (by omega)) ?_; intro u) | (refine go_callp rfl code_laws_equalFracs.callable (fun H hH => equalFracs_ok (hH.valsA (by exact Has.auto)) (hH.valsA (by exact Has.auto)) (by omega) (by omega)) ?_) | (refine go_calln rfl code_laws_turned.callable (fun H hH => turned_ok (hH.ints (by exact Has.auto)) (by omega)) ?_; intro u) | (refine go_calln rfl code_laws_negated.callable (fun H hH => negated_ok (hH.ints (by exact Has.auto)) (by omega) (by assumption)) ?_; intro u)) | (refine go_is rfl (stp_ageqS rfl rfl) ?_) | (refine go_is rfl (stp_agneS rfl rfl) ?_) | (show GO _ _ _ _ _ (⟨some _, none, _⟩ :: _) _; first | refine go_op (hk := ?_) | (refine go_nw (hk := ?_); intro u; try simp only [llc, lln, lna, lza]) | (refine go_np (hk := ?_); intro id)) | (show GQ _ _ _ _ _ _ _ (⟨some _, none, _⟩ :: _) _; first | refine gq_op (hk := ?_) | (refine gq_nw (hk := ?_); intro u; try simp only [llc, lln, lna, lza])) | (show GO _ _ _ _ _ (⟨none, none, _⟩ :: _) _; refine go_st (hk := ?_)) | (show GO _ _ _ _ _ (⟨_, some _, _⟩ :: _) _; first | refine go_in (hk := ?_) | refine go_out (hk := ?_) | refine go_void (hk := ?_)) | (show GQ _ _ _ _ _ _ _ (⟨_, some _, _⟩ :: _) _; first | refine gq_in (hk := ?_) | refine gq_out (hk := ?_) | refine gq_void (hk := ?_)) | (show GK _ _ _ _ (blockK _ _ _); refine gk_past rfl ?_) | (show GC _ _ _ _ _ (.cond _ _ _) _; first | refine gc_yes (h1 := ?_) | refine gc_no (h1 := ?_))))
  revert u; intro v6
  rename_i v5 v23 v37 v38 v40
  refine gc_up xs.length (fun i => [(5, v5), (6, v6), (7, .int .i64 (xs.length : Int)), (8, .int .i64 (i : Int))]) (fun _ => [⟨.rw, v5, 2, (riO xs ws).length, frs (riO xs ws)⟩, ⟨.rw, v6, 2, (riO (xs.reverse.map (- ·)) ws.reverse).length, frs (riO (xs.reverse.map (- ·)) ws.reverse)⟩]) (hb := ?_)
  intro i hi I ν m hk
  (repeat (first | refine gst (hk := ?_) | (with_reducible refine gc_drq ?_; intro _) | (show GO _ _ _ _ _ (⟨some _, none, .call _ _⟩ :: _) _; first | (refine go_callg rfl code_spec_DrawRiseByHull.callable (fun H hH => drawRiseByHull_ok hH (by exact Has.auto) (by assumption) (by omega)) ?_; intro g hg) | (refine go_calln rfl code_impl_RiseByHull.callable (fun H hH => implRiseByHull_ok (hH.ints (by exact Has.auto)) (hH.ints (by exact Has.auto)) (by omega) (by omega)) ?_; intro u) | (refine go_calln rfl code_spec_RiseByHull.callable (fun H hH => specRiseByHull_ok (hH.ints (by exact Has.auto)) (hH.ints (by exact Has.auto)) (by omega) (by omega)) ?_; intro u) | (refine go_callp rfl code_laws_equalFracs.callable (fun H hH => equalFracs_ok (hH.valsA (by exact Has.auto)) (hH.valsA (by exact Has.auto)) (by omega) (by omega)) ?_) | (refine go_calln rfl code_laws_turned.callable (fun H hH => turned_ok (hH.ints (by exact Has.auto)) (by omega)) ?_; intro u) | (refine go_calln rfl code_laws_negated.callable (fun H hH => negated_ok (hH.ints (by exact Has.auto)) (by omega) (by assumption)) ?_; intro u)) | (refine go_is rfl (stp_ageqS rfl rfl) ?_) | (refine go_is rfl (stp_agneS rfl rfl) ?_) | (show GO _ _ _ _ _ (⟨some _, none, _⟩ :: _) _; first | refine go_op (hk := ?_) | (refine go_nw (hk := ?_); intro u; try simp only [llc, lln, lna, lza]) | (refine go_np (hk := ?_); intro id)) | (show GQ _ _ _ _ _ _ _ (⟨some _, none, _⟩ :: _) _; first | refine gq_op (hk := ?_) | (refine gq_nw (hk := ?_); intro u; try simp only [llc, lln, lna, lza])) | (show GO _ _ _ _ _ (⟨none, none, _⟩ :: _) _; refine go_st (hk := ?_)) | (show GO _ _ _ _ _ (⟨_, some _, _⟩ :: _) _; first | refine go_in (hk := ?_) | refine go_out (hk := ?_) | refine go_void (hk := ?_)) | (show GQ _ _ _ _ _ _ _ (⟨_, some _, _⟩ :: _) _; first | refine gq_in (hk := ?_) | refine gq_out (hk := ?_) | refine gq_void (hk := ?_)) | (show GK _ _ _ _ (blockK _ _ _); refine gk_past rfl ?_) | (show GC _ _ _ _ _ (.cond _ _ _) _; first | refine gc_yes (h1 := ?_) | refine gc_no (h1 := ?_))))
  refine gc_cond rfl (fun h3 => ?_) (fun h3 => ?_)
  · have hk1 := hk (by omega)
    have q1 : nthR (riO xs ws) (xs.length - 1 - i) = fiR xs ws (xs.length - 1 - i) := by rw [r1.1, nth_fiL (by omega)]
    have q2 : nthR (riO (xs.reverse.map (- ·)) ws.reverse) i = - fiR xs ws (xs.length - 1 - i) := by
      rw [r2.1, nth_fiL (by omega)]
      have := hL.turn_fit (j := xs.length - 1 - i) (by omega)
      rwa [show xs.length - 1 - (xs.length - 1 - i) = i by omega] at this
    obtain ⟨V, hV, f1, _⟩ := hL.d_fd (j := xs.length - 1 - i) (by omega)
    obtain ⟨n1, n2, n3⟩ := f1.nd
    have hneg : ((- (fiR xs ws (xs.length - 1 - i)).num : Int) : Rat) / (((fiR xs ws (xs.length - 1 - i)).den : Int) : Rat) = - fiR xs ws (xs.length - 1 - i) := by
      rw [Rat.intCast_neg, Rat.div_def, Rat.neg_mul, ← Rat.div_def, ← rat_nd']
    have hnum := frs_num (L := riO xs ws) (i := xs.length - 1 - i) (by omega)
    rw [q1] at hnum
    (repeat (first | refine gst (hk := ?_) | (show GO _ _ _ _ _ (⟨some _, none, .call _ _⟩ :: _) _; first | (refine go_callg rfl code_spec_DrawRiseByHull.callable (fun H hH => drawRiseByHull_ok hH (by exact Has.auto) (by assumption) (by omega)) ?_; intro g hg) | (refine go_calln rfl code_impl_RiseByHull.callable (fun H hH => implRiseByHull_ok (hH.ints (by exact Has.auto)) (hH.ints (by exact Has.auto)) (by omega) (by omega)) ?_; intro u) | (refine go_calln rfl code_spec_RiseByHull.callable (fun H hH => specRiseByHull_ok (hH.ints (by exact Has.auto)) (hH.ints (by exact Has.auto)) (by omega) (by omega)) ?_; intro u) | (refine go_callp rfl code_laws_equalFracs.callable (fun H hH => equalFracs_ok (hH.valsA (by exact Has.auto)) (hH.valsA (by exact Has.auto)) (by omega) (by omega)) ?_) | (refine go_calln rfl code_laws_turned.callable (fun H hH => turned_ok (hH.ints (by exact Has.auto)) (by omega)) ?_; intro u) | (refine go_calln rfl code_laws_negated.callable (fun H hH => negated_ok (hH.ints (by exact Has.auto)) (by omega) (by assumption)) ?_; intro u)) | (refine go_is rfl (stp_ageqS rfl rfl) ?_) | (refine go_is rfl (stp_agneS rfl rfl) ?_) | (show GO _ _ _ _ _ (⟨some _, none, _⟩ :: _) _; first | refine go_op (hk := ?_) | (refine go_nw (hk := ?_); intro u; try simp only [llc, lln, lna, lza]) | (refine go_np (hk := ?_); intro id)) | (show GQ _ _ _ _ _ _ _ (⟨some _, none, _⟩ :: _) _; first | refine gq_op (hk := ?_) | (refine gq_nw (hk := ?_); intro u; try simp only [llc, lln, lna, lza])) | (show GO _ _ _ _ _ (⟨none, none, _⟩ :: _) _; refine go_st (hk := ?_)) | (show GO _ _ _ _ _ (⟨_, some _, _⟩ :: _) _; first | refine go_in (hk := ?_) | refine go_out (hk := ?_) | refine go_void (hk := ?_)) | (show GQ _ _ _ _ _ _ _ (⟨_, some _, _⟩ :: _) _; first | refine gq_in (hk := ?_) | refine gq_out (hk := ?_) | refine gq_void (hk := ?_)) | (show GK _ _ _ _ (blockK _ _ _); refine gk_past rfl ?_) | (show GC _ _ _ _ _ (.cond _ _ _) _; first | refine gc_yes (h1 := ?_) | refine gc_no (h1 := ?_))))
    refine gc_drqt (fun H => qtTab [(fn_laws_fracOf, dFrac)]) (fun H hH => qtTab_cons (dFracL_ok H) qtTab_nil) (fun H0 => ?_)
    (repeat (first | refine gst (hk := ?_) | (show GO _ _ _ _ _ (⟨some _, none, .call _ _⟩ :: _) _; first | (refine go_callg rfl code_spec_DrawRiseByHull.callable (fun H hH => drawRiseByHull_ok hH (by exact Has.auto) (by assumption) (by omega)) ?_; intro g hg) | (refine go_calln rfl code_impl_RiseByHull.callable (fun H hH => implRiseByHull_ok (hH.ints (by exact Has.auto)) (hH.ints (by exact Has.auto)) (by omega) (by omega)) ?_; intro u) | (refine go_calln rfl code_spec_RiseByHull.callable (fun H hH => specRiseByHull_ok (hH.ints (by exact Has.auto)) (hH.ints (by exact Has.auto)) (by omega) (by omega)) ?_; intro u) | (refine go_callp rfl code_laws_equalFracs.callable (fun H hH => equalFracs_ok (hH.valsA (by exact Has.auto)) (hH.valsA (by exact Has.auto)) (by omega) (by omega)) ?_) | (refine go_calln rfl code_laws_turned.callable (fun H hH => turned_ok (hH.ints (by exact Has.auto)) (by omega)) ?_; intro u) | (refine go_calln rfl code_laws_negated.callable (fun H hH => negated_ok (hH.ints (by exact Has.auto)) (by omega) (by assumption)) ?_; intro u)) | (refine go_is rfl (stp_ageqS rfl rfl) ?_) | (refine go_is rfl (stp_agneS rfl rfl) ?_) | (show GO _ _ _ _ _ (⟨some _, none, _⟩ :: _) _; first | refine go_op (hk := ?_) | (refine go_nw (hk := ?_); intro u; try simp only [llc, lln, lna, lza]) | (refine go_np (hk := ?_); intro id)) | (show GQ _ _ _ _ _ _ _ (⟨some _, none, _⟩ :: _) _; first | refine gq_op (hk := ?_) | (refine gq_nw (hk := ?_); intro u; try simp only [llc, lln, lna, lza])) | (show GO _ _ _ _ _ (⟨none, none, _⟩ :: _) _; refine go_st (hk := ?_)) | (show GO _ _ _ _ _ (⟨_, some _, _⟩ :: _) _; first | refine go_in (hk := ?_) | refine go_out (hk := ?_) | refine go_void (hk := ?_)) | (show GQ _ _ _ _ _ _ _ (⟨_, some _, _⟩ :: _) _; first | refine gq_in (hk := ?_) | refine gq_out (hk := ?_) | refine gq_void (hk := ?_)) | (show GK _ _ _ _ (blockK _ _ _); refine gk_past rfl ?_) | (show GC _ _ _ _ _ (.cond _ _ _) _; first | refine gc_yes (h1 := ?_) | refine gc_no (h1 := ?_))))
    refine gq_is rfl (stp_ldF (i := i) rfl (by exact Has.auto) (by omega) (by omega)) ?_
    rw [q2]
    (repeat (first | refine gst (hk := ?_) | (show GO _ _ _ _ _ (⟨some _, none, .call _ _⟩ :: _) _; first | (refine go_callg rfl code_spec_DrawRiseByHull.callable (fun H hH => drawRiseByHull_ok hH (by exact Has.auto) (by assumption) (by omega)) ?_; intro g hg) | (refine go_calln rfl code_impl_RiseByHull.callable (fun H hH => implRiseByHull_ok (hH.ints (by exact Has.auto)) (hH.ints (by exact Has.auto)) (by omega) (by omega)) ?_; intro u) | (refine go_calln rfl code_spec_RiseByHull.callable (fun H hH => specRiseByHull_ok (hH.ints (by exact Has.auto)) (hH.ints (by exact Has.auto)) (by omega) (by omega)) ?_; intro u) | (refine go_callp rfl code_laws_equalFracs.callable (fun H hH => equalFracs_ok (hH.valsA (by exact Has.auto)) (hH.valsA (by exact Has.auto)) (by omega) (by omega)) ?_) | (refine go_calln rfl code_laws_turned.callable (fun H hH => turned_ok (hH.ints (by exact Has.auto)) (by omega)) ?_; intro u) | (refine go_calln rfl code_laws_negated.callable (fun H hH => negated_ok (hH.ints (by exact Has.auto)) (by omega) (by assumption)) ?_; intro u)) | (refine go_is rfl (stp_ageqS rfl rfl) ?_) | (refine go_is rfl (stp_agneS rfl rfl) ?_) | (show GO _ _ _ _ _ (⟨some _, none, _⟩ :: _) _; first | refine go_op (hk := ?_) | (refine go_nw (hk := ?_); intro u; try simp only [llc, lln, lna, lza]) | (refine go_np (hk := ?_); intro id)) | (show GQ _ _ _ _ _ _ _ (⟨some _, none, _⟩ :: _) _; first | refine gq_op (hk := ?_) | (refine gq_nw (hk := ?_); intro u; try simp only [llc, lln, lna, lza])) | (show GO _ _ _ _ _ (⟨none, none, _⟩ :: _) _; refine go_st (hk := ?_)) | (show GO _ _ _ _ _ (⟨_, some _, _⟩ :: _) _; first | refine go_in (hk := ?_) | refine go_out (hk := ?_) | refine go_void (hk := ?_)) | (show GQ _ _ _ _ _ _ _ (⟨_, some _, _⟩ :: _) _; first | refine gq_in (hk := ?_) | refine gq_out (hk := ?_) | refine gq_void (hk := ?_)) | (show GK _ _ _ _ (blockK _ _ _); refine gk_past rfl ?_) | (show GC _ _ _ _ _ (.cond _ _ _) _; first | refine gc_yes (h1 := ?_) | refine gc_no (h1 := ?_))))
    rw [show ((xs.length : Int) - 1 - (i : Int)).toNat = xs.length - 1 - i by omega]
    refine gq_is rfl (stp_fae (i := xs.length - 1 - i) (j := 0) rfl (by exact Has.auto) (by omega)) ?_
    refine gq_is rfl (stp_lde (j := 0) rfl (by exact Has.auto) (by omega) (by omega) hnum.1) ?_
    (repeat (first | refine gst (hk := ?_) | (show GO _ _ _ _ _ (⟨some _, none, .call _ _⟩ :: _) _; first | (refine go_callg rfl code_spec_DrawRiseByHull.callable (fun H hH => drawRiseByHull_ok hH (by exact Has.auto) (by assumption) (by omega)) ?_; intro g hg) | (refine go_calln rfl code_impl_RiseByHull.callable (fun H hH => implRiseByHull_ok (hH.ints (by exact Has.auto)) (hH.ints (by exact Has.auto)) (by omega) (by omega)) ?_; intro u) | (refine go_calln rfl code_spec_RiseByHull.callable (fun H hH => specRiseByHull_ok (hH.ints (by exact Has.auto)) (hH.ints (by exact Has.auto)) (by omega) (by omega)) ?_; intro u) | (refine go_callp rfl code_laws_equalFracs.callable (fun H hH => equalFracs_ok (hH.valsA (by exact Has.auto)) (hH.valsA (by exact Has.auto)) (by omega) (by omega)) ?_) | (refine go_calln rfl code_laws_turned.callable (fun H hH => turned_ok (hH.ints (by exact Has.auto)) (by omega)) ?_; intro u) | (refine go_calln rfl code_laws_negated.callable (fun H hH => negated_ok (hH.ints (by exact Has.auto)) (by omega) (by assumption)) ?_; intro u)) | (refine go_is rfl (stp_ageqS rfl rfl) ?_) | (refine go_is rfl (stp_agneS rfl rfl) ?_) | (show GO _ _ _ _ _ (⟨some _, none, _⟩ :: _) _; first | refine go_op (hk := ?_) | (refine go_nw (hk := ?_); intro u; try simp only [llc, lln, lna, lza]) | (refine go_np (hk := ?_); intro id)) | (show GQ _ _ _ _ _ _ _ (⟨some _, none, _⟩ :: _) _; first | refine gq_op (hk := ?_) | (refine gq_nw (hk := ?_); intro u; try simp only [llc, lln, lna, lza])) | (show GO _ _ _ _ _ (⟨none, none, _⟩ :: _) _; refine go_st (hk := ?_)) | (show GO _ _ _ _ _ (⟨_, some _, _⟩ :: _) _; first | refine go_in (hk := ?_) | refine go_out (hk := ?_) | refine go_void (hk := ?_)) | (show GQ _ _ _ _ _ _ _ (⟨_, some _, _⟩ :: _) _; first | refine gq_in (hk := ?_) | refine gq_out (hk := ?_) | refine gq_void (hk := ?_)) | (show GK _ _ _ _ (blockK _ _ _); refine gk_past rfl ?_) | (show GC _ _ _ _ _ (.cond _ _ _) _; first | refine gc_yes (h1 := ?_) | refine gc_no (h1 := ?_))))
    rw [show ((xs.length : Int) - 1 - (i : Int)).toNat = xs.length - 1 - i by omega]
    refine gq_is rfl (stp_fae (i := xs.length - 1 - i) (j := 1) rfl (by exact Has.auto) (by omega)) ?_
    refine gq_is rfl (stp_lde (j := 1) rfl (by exact Has.auto) (by omega) (by omega) hnum.2) ?_
    refine gq_call rfl (fun _ => dFrac_is (a := - (fiR xs ws (xs.length - 1 - i)).num) (b := ((fiR xs ws (xs.length - 1 - i)).den : Int)) (by omega) (by omega) (by omega)) ?_
    rw [hneg]
    refine gq_is rfl (stp_agneF (p := - fiR xs ws (xs.length - 1 - i)) (q := - fiR xs ws (xs.length - 1 - i)) rfl rfl) ?_
    (repeat (first | refine gst (hk := ?_) | (show GO _ _ _ _ _ (⟨some _, none, .call _ _⟩ :: _) _; first | (refine go_callg rfl code_spec_DrawRiseByHull.callable (fun H hH => drawRiseByHull_ok hH (by exact Has.auto) (by assumption) (by omega)) ?_; intro g hg) | (refine go_calln rfl code_impl_RiseByHull.callable (fun H hH => implRiseByHull_ok (hH.ints (by exact Has.auto)) (hH.ints (by exact Has.auto)) (by omega) (by omega)) ?_; intro u) | (refine go_calln rfl code_spec_RiseByHull.callable (fun H hH => specRiseByHull_ok (hH.ints (by exact Has.auto)) (hH.ints (by exact Has.auto)) (by omega) (by omega)) ?_; intro u) | (refine go_callp rfl code_laws_equalFracs.callable (fun H hH => equalFracs_ok (hH.valsA (by exact Has.auto)) (hH.valsA (by exact Has.auto)) (by omega) (by omega)) ?_) | (refine go_calln rfl code_laws_turned.callable (fun H hH => turned_ok (hH.ints (by exact Has.auto)) (by omega)) ?_; intro u) | (refine go_calln rfl code_laws_negated.callable (fun H hH => negated_ok (hH.ints (by exact Has.auto)) (by omega) (by assumption)) ?_; intro u)) | (refine go_is rfl (stp_ageqS rfl rfl) ?_) | (refine go_is rfl (stp_agneS rfl rfl) ?_) | (show GO _ _ _ _ _ (⟨some _, none, _⟩ :: _) _; first | refine go_op (hk := ?_) | (refine go_nw (hk := ?_); intro u; try simp only [llc, lln, lna, lza]) | (refine go_np (hk := ?_); intro id)) | (show GQ _ _ _ _ _ _ _ (⟨some _, none, _⟩ :: _) _; first | refine gq_op (hk := ?_) | (refine gq_nw (hk := ?_); intro u; try simp only [llc, lln, lna, lza])) | (show GO _ _ _ _ _ (⟨none, none, _⟩ :: _) _; refine go_st (hk := ?_)) | (show GO _ _ _ _ _ (⟨_, some _, _⟩ :: _) _; first | refine go_in (hk := ?_) | refine go_out (hk := ?_) | refine go_void (hk := ?_)) | (show GQ _ _ _ _ _ _ _ (⟨_, some _, _⟩ :: _) _; first | refine gq_in (hk := ?_) | refine gq_out (hk := ?_) | refine gq_void (hk := ?_)) | (show GK _ _ _ _ (blockK _ _ _); refine gk_past rfl ?_) | (show GC _ _ _ _ _ (.cond _ _ _) _; first | refine gc_yes (h1 := ?_) | refine gc_no (h1 := ?_))))
    refine gc_cond rfl (fun h4 => absurd rfl h4) (fun _ => ?_)
    (repeat (first | refine gst (hk := ?_) | (with_reducible refine gc_drq ?_; intro _) | (show GO _ _ _ _ _ (⟨some _, none, .call _ _⟩ :: _) _; first | (refine go_callg rfl code_spec_DrawRiseByHull.callable (fun H hH => drawRiseByHull_ok hH (by exact Has.auto) (by assumption) (by omega)) ?_; intro g hg) | (refine go_calln rfl code_impl_RiseByHull.callable (fun H hH => implRiseByHull_ok (hH.ints (by exact Has.auto)) (hH.ints (by exact Has.auto)) (by omega) (by omega)) ?_; intro u) | (refine go_calln rfl code_spec_RiseByHull.callable (fun H hH => specRiseByHull_ok (hH.ints (by exact Has.auto)) (hH.ints (by exact Has.auto)) (by omega) (by omega)) ?_; intro u) | (refine go_callp rfl code_laws_equalFracs.callable (fun H hH => equalFracs_ok (hH.valsA (by exact Has.auto)) (hH.valsA (by exact Has.auto)) (by omega) (by omega)) ?_) | (refine go_calln rfl code_laws_turned.callable (fun H hH => turned_ok (hH.ints (by exact Has.auto)) (by omega)) ?_; intro u) | (refine go_calln rfl code_laws_negated.callable (fun H hH => negated_ok (hH.ints (by exact Has.auto)) (by omega) (by assumption)) ?_; intro u)) | (refine go_is rfl (stp_ageqS rfl rfl) ?_) | (refine go_is rfl (stp_agneS rfl rfl) ?_) | (show GO _ _ _ _ _ (⟨some _, none, _⟩ :: _) _; first | refine go_op (hk := ?_) | (refine go_nw (hk := ?_); intro u; try simp only [llc, lln, lna, lza]) | (refine go_np (hk := ?_); intro id)) | (show GQ _ _ _ _ _ _ _ (⟨some _, none, _⟩ :: _) _; first | refine gq_op (hk := ?_) | (refine gq_nw (hk := ?_); intro u; try simp only [llc, lln, lna, lza])) | (show GO _ _ _ _ _ (⟨none, none, _⟩ :: _) _; refine go_st (hk := ?_)) | (show GO _ _ _ _ _ (⟨_, some _, _⟩ :: _) _; first | refine go_in (hk := ?_) | refine go_out (hk := ?_) | refine go_void (hk := ?_)) | (show GQ _ _ _ _ _ _ _ (⟨_, some _, _⟩ :: _) _; first | refine gq_in (hk := ?_) | refine gq_out (hk := ?_) | refine gq_void (hk := ?_)) | (show GK _ _ _ _ (blockK _ _ _); refine gk_past rfl ?_) | (show GC _ _ _ _ _ (.cond _ _ _) _; first | refine gc_yes (h1 := ?_) | refine gc_no (h1 := ?_))))
    exact gk_next hk1
  · obtain rfl : i = xs.length := by omega
    (repeat (first | refine gst (hk := ?_) | (with_reducible refine gc_drq ?_; intro _) | (show GO _ _ _ _ _ (⟨some _, none, .call _ _⟩ :: _) _; first | (refine go_callg rfl code_spec_DrawRiseByHull.callable (fun H hH => drawRiseByHull_ok hH (by exact Has.auto) (by assumption) (by omega)) ?_; intro g hg) | (refine go_calln rfl code_impl_RiseByHull.callable (fun H hH => implRiseByHull_ok (hH.ints (by exact Has.auto)) (hH.ints (by exact Has.auto)) (by omega) (by omega)) ?_; intro u) | (refine go_calln rfl code_spec_RiseByHull.callable (fun H hH => specRiseByHull_ok (hH.ints (by exact Has.auto)) (hH.ints (by exact Has.auto)) (by omega) (by omega)) ?_; intro u) | (refine go_callp rfl code_laws_equalFracs.callable (fun H hH => equalFracs_ok (hH.valsA (by exact Has.auto)) (hH.valsA (by exact Has.auto)) (by omega) (by omega)) ?_) | (refine go_calln rfl code_laws_turned.callable (fun H hH => turned_ok (hH.ints (by exact Has.auto)) (by omega)) ?_; intro u) | (refine go_calln rfl code_laws_negated.callable (fun H hH => negated_ok (hH.ints (by exact Has.auto)) (by omega) (by assumption)) ?_; intro u)) | (refine go_is rfl (stp_ageqS rfl rfl) ?_) | (refine go_is rfl (stp_agneS rfl rfl) ?_) | (show GO _ _ _ _ _ (⟨some _, none, _⟩ :: _) _; first | refine go_op (hk := ?_) | (refine go_nw (hk := ?_); intro u; try simp only [llc, lln, lna, lza]) | (refine go_np (hk := ?_); intro id)) | (show GQ _ _ _ _ _ _ _ (⟨some _, none, _⟩ :: _) _; first | refine gq_op (hk := ?_) | (refine gq_nw (hk := ?_); intro u; try simp only [llc, lln, lna, lza])) | (show GO _ _ _ _ _ (⟨none, none, _⟩ :: _) _; refine go_st (hk := ?_)) | (show GO _ _ _ _ _ (⟨_, some _, _⟩ :: _) _; first | refine go_in (hk := ?_) | refine go_out (hk := ?_) | refine go_void (hk := ?_)) | (show GQ _ _ _ _ _ _ _ (⟨_, some _, _⟩ :: _) _; first | refine gq_in (hk := ?_) | refine gq_out (hk := ?_) | refine gq_void (hk := ?_)) | (show GK _ _ _ _ (blockK _ _ _); refine gk_past rfl ?_) | (show GC _ _ _ _ _ (.cond _ _ _) _; first | refine gc_yes (h1 := ?_) | refine gc_no (h1 := ?_))))
    exact gk_ret rfl fun H' hH => by
      show AV.bool (decide _) = _
      rw [decide_eq_true (by rw [r2.2, lm])]

structure Cst {α : Type} (op : α → α → α) (le : α → α → Prop) : Prop where
  assoc : ∀ a b c, op (op a b) c = op a (op b c)
  comm : ∀ a b, op a b = op b a
  mono : ∀ {a b} c, le a b → le (op a c) (op b c)
  refl : ∀ a, le a a
  trans : ∀ {a b c}, le a b → le b c → le a c
  anti : ∀ {a b}, le a b → le b a → a = b

inductive Cuts {α : Type} (op : α → α → α) (c : Nat → Nat → α) : Nat → Nat → Nat → α → Prop
  | one {i k : Nat} (h : i < k) : Cuts op c 1 i k (c i k)
  | snoc {p i m k : Nat} {v : α} (h : Cuts op c p i m v) (hk : m < k) : Cuts op c (p + 1) i k (op v (c m k))

theorem Cuts.lt {α : Type} {op : α → α → α} {c : Nat → Nat → α} {p i k : Nat} {v : α} (h : Cuts op c p i k v) : i < k ∧ 1 ≤ p ∧ i + p ≤ k := by
  induction h with
  | one h => omega
  | snoc h hk ih => omega

theorem Cuts.cons {α : Type} {op : α → α → α} {le : α → α → Prop} (hc : Cst op le) {c : Nat → Nat → α} {p i m k : Nat} {v : α} (hi : i < m) (h : Cuts op c p m k v) : Cuts op c (p + 1) i k (op (c i m) v) := by
  induction h with
  | one h => exact .snoc (.one hi) h
  | snoc h hk ih => rw [← hc.assoc]; exact .snoc (ih hi) hk

def LeastC {α : Type} (op : α → α → α) (le : α → α → Prop) (c : Nat → Nat → α) (P i k : Nat) (v : α) : Prop := (∃ q, q ≤ P ∧ Cuts op c q i k v) ∧ ∀ q w, q ≤ P → Cuts op c q i k w → le v w

theorem LeastC.uniq {α : Type} {op : α → α → α} {le : α → α → Prop} (hc : Cst op le) {c : Nat → Nat → α} {P i k : Nat} {v w : α} (h : LeastC op le c P i k v) (h' : LeastC op le c P i k w) : v = w := by
  obtain ⟨⟨q, h1, h2⟩, h3⟩ := h
  obtain ⟨⟨q', h1', h2'⟩, h3'⟩ := h'
  exact hc.anti (h3 _ _ h1' h2') (h3' _ _ h1 h2)

theorem LeastC.pos {α : Type} {op : α → α → α} {le : α → α → Prop} {c : Nat → Nat → α} {P i k : Nat} {v : α} (h : LeastC op le c P i k v) : 1 ≤ P ∧ i < k := by
  obtain ⟨⟨q, h1, h2⟩, _⟩ := h
  have := h2.lt
  omega

/-- the other way round -/
theorem Cuts.turn {α : Type} {op : α → α → α} {le : α → α → Prop} (hc : Cst op le) {c d : Nat → Nat → α} {n : Nat} (hd : ∀ i k, i < k → k ≤ n → d i k = c (n - k) (n - i)) {p i k : Nat} {v : α} (h : Cuts op d p i k v) (hk : k ≤ n) : Cuts op c p (n - k) (n - i) v := by
  induction h with
  | one h => rw [hd _ _ h hk]; exact .one (by omega)
  | @snoc p i m k v h hmk ih =>
    have := ih (by omega)
    rw [hd _ _ hmk hk, hc.comm]
    exact .cons hc (by omega) this

theorem LeastC.turn {α : Type} {op : α → α → α} {le : α → α → Prop} (hc : Cst op le) {c d : Nat → Nat → α} {n P : Nat} (hd : ∀ i k, i < k → k ≤ n → d i k = c (n - k) (n - i)) {v : α} (h : LeastC op le d P 0 n v) : LeastC op le c P 0 n v := by
  obtain ⟨⟨q, h1, h2⟩, h3⟩ := h
  refine ⟨⟨q, h1, by simpa using h2.turn hc hd (Nat.le_refl _)⟩, fun q w hq hw => h3 q w hq ?_⟩
  have hd' : ∀ i k, i < k → k ≤ n → c i k = d (n - k) (n - i) := fun i k hik hk => by
    rw [hd (n - k) (n - i) (by omega) (by omega)]
    congr 1 <;> omega
  simpa using hw.turn hc hd' (Nat.le_refl _)

theorem LeastC.congr {α : Type} {op : α → α → α} {le : α → α → Prop} {c d : Nat → Nat → α} {n P : Nat} (hd : ∀ i k, i < k → k ≤ n → d i k = c i k) {v : α} (h : LeastC op le d P 0 n v) : LeastC op le c P 0 n v := by
  have key : ∀ {c d : Nat → Nat → α}, (∀ i k, i < k → k ≤ n → d i k = c i k) → ∀ {p i k : Nat} {v : α}, Cuts op d p i k v → k ≤ n → Cuts op c p i k v := by
    intro c d hd p i k v h
    induction h with
    | one h => intro hk; rw [hd _ _ h hk]; exact .one h
    | snoc h hmk ih => intro hk; rw [hd _ _ hmk hk]; exact .snoc (ih (by omega)) hmk
  obtain ⟨⟨q, h1, h2⟩, h3⟩ := h
  exact ⟨⟨q, h1, key hd h2 (Nat.le_refl _)⟩, fun q w hq hw => h3 q w hq (key (fun i k h1 h2 => (hd i k h1 h2).symm) hw (Nat.le_refl _))⟩

theorem Steps.back {xs : List Int} (h : Steps xs) : Steps xs.reverse := ⟨fun x hx => h.1 x (List.mem_reverse.1 hx), by simpa using h.2.1, by simpa using h.2.2⟩

theorem Steps.neg {xs : List Int} (h : Steps xs) : Steps (negL xs) := ⟨fun x hx => by
  unfold negL at hx
  obtain ⟨y, hy, rfl⟩ := List.mem_map.1 hx
  have := h.1 y hy
  omega, by rw [negL_length]; exact h.2.1, by rw [negL_length]; exact h.2.2⟩

def MpO (ob : Nat → Option OB) (id : Nat) (es : List ME) (clk : Nat) : Prop := ∃ o, ob id = some o ∧ o.mo = some (.map es clk)

def seo (ob : Nat → Option OB) (id : Nat) (o : OB) : Nat → Option OB := fun i => if i = id then some o else ob i

theorem mp_other {ob : Nat → Option OB} {id j : Nat} {es : List ME} {clk : Nat} {o : OB} (h : MpO ob j es clk) (hn : j ≠ id) : MpO (seo ob id o) j es clk := by
  obtain ⟨x, h1, h2⟩ := h
  exact ⟨x, by simp only [seo]; rw [if_neg hn]; exact h1, h2⟩

/-- what was there is there, but for some -/
def ExO (ob0 ob : Nat → Option OB) (I : List Nat) : Prop := ∀ j o, j ∉ I → ob0 j = some o → ob j = some o

theorem ExO.refl (ob : Nat → Option OB) (I : List Nat) : ExO ob ob I := fun _ _ _ h => h

theorem ExO.new {ob0 ob : Nat → Option OB} {I : List Nat} (h : ExO ob0 ob I) {id : Nat} (hn : ob id = none) (o : OB) : ExO ob0 (seo ob id o) I := fun j p h1 h2 => by
  have h3 := h j p h1 h2
  have : j ≠ id := by rintro rfl; rw [hn] at h3; cases h3
  simp only [seo]; rw [if_neg this]; exact h3

theorem ExO.mod {ob0 ob : Nat → Option OB} {I : List Nat} (h : ExO ob0 ob I) {id : Nat} (hn : ob0 id = none ∨ id ∈ I) (o : OB) : ExO ob0 (seo ob id o) I := fun j p h1 h2 => by
  have : j ≠ id := by
    rintro rfl
    rcases hn with hn | hn
    · rw [hn] at h2; cases h2
    · exact h1 hn
  simp only [seo]; rw [if_neg this]; exact h j p h1 h2

structure CE where
  p : Nat
  v : Rat
  b : Nat

def ceM (e : CE) : ME := ⟨.int .i64 (e.p : Int), frV e.v, e.b⟩

def CutsOk (L : List CE) (clk : Nat) : Prop := (L.map CE.b).Nodup ∧ (∀ e ∈ L, e.b < clk) ∧ (L.map CE.p).Nodup

theorem CutsOk.sub {L M : List CE} {clk : Nat} (h : CutsOk L clk) (hs : M.Sublist L) : CutsOk M clk := ⟨(hs.map _).nodup h.1, fun e he => h.2.1 e (hs.subset he), (hs.map _).nodup h.2.2⟩

/-- the stamps that have come -/
def GoneC (L : List CE) (seen : List Nat) : Prop := seen.Nodup ∧ ∀ b ∈ seen, b ∈ L.map CE.b

theorem GoneC.nil (L : List CE) : GoneC L [] := ⟨List.nodup_nil, by simp⟩

theorem GoneC.le {L : List CE} {seen : List Nat} (h : GoneC L seen) : seen.length ≤ L.length := by
  have := h.1.length_le_of_subset (fun b hb => h.2 b hb : seen ⊆ L.map CE.b)
  rwa [List.length_map] at this

theorem GoneC.snoc {L : List CE} {seen : List Nat} (h : GoneC L seen) {e : CE} (he : e ∈ L) (hn : e.b ∉ seen) : GoneC L (seen ++ [e.b]) := by
  refine ⟨?_, fun b hb => ?_⟩
  · rw [List.nodup_append]
    exact ⟨h.1, by simp, fun a ha b hb => by simp only [List.mem_singleton] at hb; subst hb; exact fun h => hn (h ▸ ha)⟩
  · rcases List.mem_append.1 hb with hb | hb
    · exact h.2 b hb
    · simp only [List.mem_singleton] at hb; subst hb; exact List.mem_map.2 ⟨e, he, rfl⟩

theorem GoneC.lt {L : List CE} {seen : List Nat} (h : GoneC L seen) {e : CE} (he : e ∈ L) (hn : e.b ∉ seen) : L.length - (seen ++ [e.b]).length < L.length - seen.length := by
  have := (h.snoc he hn).le
  rw [List.length_append, List.length_singleton] at this ⊢
  omega

/-- the ways that are not beaten, of some -/
def FrontC (L : List CE) (S : Nat → Rat → Prop) : Prop := (∀ e ∈ L, S e.p e.v) ∧ (∀ p v, S p v → ∃ e ∈ L, e.p ≤ p ∧ e.v ≤ v) ∧ ∀ e ∈ L, ∀ e' ∈ L, e.p < e'.p → e'.v < e.v

def SC (c : Nat → Nat → Rat) (i q : Nat) (v : Rat) : Prop := (i = 0 ∧ q = 0 ∧ v = 0) ∨ Cuts (· + ·) c q 0 i v

theorem FrontC.weaken {L : List CE} {S S' : Nat → Rat → Prop} (h : FrontC L S) (h1 : ∀ q v, S q v → S' q v) (h2 : ∀ q v, S' q v → ∃ q0 v0, S q0 v0 ∧ q0 ≤ q ∧ v0 ≤ v) : FrontC L S' := by
  obtain ⟨g1, g2, g3⟩ := h
  refine ⟨fun e he => h1 _ _ (g1 e he), fun q v hq => ?_, g3⟩
  obtain ⟨q0, v0, k1, k2, k3⟩ := h2 q v hq
  obtain ⟨e, m1, m2, m3⟩ := g2 q0 v0 k1
  exact ⟨e, m1, by omega, Rat.le_trans m3 k3⟩

theorem FrontC.same {L : List CE} {S S' : Nat → Rat → Prop} (h : FrontC L S) (h1 : ∀ q v, S q v ↔ S' q v) : FrontC L S' := h.weaken (fun q v => (h1 q v).1) (fun q v hq => ⟨q, v, (h1 q v).2 hq, Nat.le_refl _, Rat.le_refl⟩)

def GoodM (c : Nat → Nat → Rat) (ob : Nat → Option OB) (m i : Nat) : Prop := ∃ L clk, MpO ob m (L.map ceM) clk ∧ CutsOk L clk ∧ FrontC L (SC c i)

theorem GoodM.seo {c : Nat → Nat → Rat} {ob : Nat → Option OB} {m i id : Nat} {o : OB} (h : GoodM c ob m i) (hn : m ≠ id) : GoodM c (seo ob id o) m i := by
  obtain ⟨L, clk, h1, h2⟩ := h
  exact ⟨L, clk, mp_other h1 hn, h2⟩

def SmP (xs : List Int) (i d : Nat) : Prop := ∀ t, i ≤ t → t < i + d → nth xs t = nth xs i

noncomputable instance (xs : List Int) (i d : Nat) : Decidable (SmP xs i d) := Classical.propDecidable _

theorem SmP.succ {xs : List Int} {i d : Nat} : SmP xs i (d + 1) ↔ SmP xs i d ∧ nth xs (i + d) = nth xs i := by
  constructor
  · exact fun h => ⟨fun t h1 h2 => h t h1 (by omega), h (i + d) (by omega) (by omega)⟩
  · rintro ⟨h1, h2⟩ t h3 h4
    rcases Nat.lt_or_ge t (i + d) with h5 | h5
    · exact h1 t h3 h5
    · rw [show t = i + d by omega]; exact h2

end Go.Rx.Try
