import Derived.Test.YtophpmdlgphihahFnMiddlePiecesD3
namespace Go.Rx.Try
open Go.Proofs
set_option maxRecDepth 100000
set_option maxHeartbeats 8000000
set_option linter.unusedSimpArgs false
set_option linter.unusedVariables false

theorem specMiddlePieces_ok {H : Heap} {a : AV} {xs : List Int} {p : Int} (ha : Ints H a xs) (hl : xs.length ≤ 1000000000) :
    ACalls Try.prog fn_spec_MiddlePieces [a, .int .i64 p] H fun r H' => r = .int .i64 (if PsOk xs p then mpV xs p.toNat else -1) ∧ H' = H := by
  refine ACalls.val ?_ rfl
  refine code_spec_MiddlePieces.go [.roI a xs.length xs] ⟨⟨rfl, ha⟩, trivial⟩ (by simp) ?_
  unfold mc_spec_MiddlePieces
  (repeat (first | refine gst (hk := ?_) | (show GO _ _ _ _ _ (⟨some _, none, .call _ _⟩ :: _) _; first | (show GO _ _ _ _ _ (⟨some _, none, .call fn_spec_inRange _⟩ :: _) _; refine go_inRange (hk := ?_); try intro u)) | (show GO _ _ _ _ _ (⟨some _, none, _⟩ :: _) _; first | refine go_op (hk := ?_) | (refine go_nw (hk := ?_); intro u; try simp only [llc, lln, lna, lza]) | (refine go_np (hk := ?_); intro id)) | (show GR _ _ _ _ _ _ (⟨some _, none, _⟩ :: _) _; refine gr_op (hk := ?_)) | (show GO _ _ _ _ _ (⟨none, none, _⟩ :: _) _; refine go_st (hk := ?_)) | (show GR _ _ _ _ _ _ (⟨none, none, _⟩ :: _) _; refine gr_st (hk := ?_)) | (show GO _ _ _ _ _ (⟨_, some _, _⟩ :: _) _; first | refine go_in (hk := ?_) | refine go_out (hk := ?_) | refine go_void (hk := ?_)) | (show GK _ _ _ _ (blockK _ _ _); refine gk_past rfl ?_) | (show GC _ _ _ _ _ (.cond _ _ _) _; first | refine gc_yes (h1 := ?_) | refine gc_no (h1 := ?_))))
  refine go_callp rfl code_spec_validSteps.callable (fun H hH => specValidSteps_ok (hH.ints (by exact Has.auto)) hl) ?_
  (repeat (first | refine gst (hk := ?_) | (show GO _ _ _ _ _ (⟨some _, none, .call _ _⟩ :: _) _; first | (show GO _ _ _ _ _ (⟨some _, none, .call fn_spec_inRange _⟩ :: _) _; refine go_inRange (hk := ?_); try intro u)) | (show GO _ _ _ _ _ (⟨some _, none, _⟩ :: _) _; first | refine go_op (hk := ?_) | (refine go_nw (hk := ?_); intro u; try simp only [llc, lln, lna, lza]) | (refine go_np (hk := ?_); intro id)) | (show GR _ _ _ _ _ _ (⟨some _, none, _⟩ :: _) _; refine gr_op (hk := ?_)) | (show GO _ _ _ _ _ (⟨none, none, _⟩ :: _) _; refine go_st (hk := ?_)) | (show GR _ _ _ _ _ _ (⟨none, none, _⟩ :: _) _; refine gr_st (hk := ?_)) | (show GO _ _ _ _ _ (⟨_, some _, _⟩ :: _) _; first | refine go_in (hk := ?_) | refine go_out (hk := ?_) | refine go_void (hk := ?_)) | (show GK _ _ _ _ (blockK _ _ _); refine gk_past rfl ?_) | (show GC _ _ _ _ _ (.cond _ _ _) _; first | refine gc_yes (h1 := ?_) | refine gc_no (h1 := ?_))))
  refine go_split 15 rfl (fun h1 => ?_) (fun h1 => ?_)
  · (repeat (first | refine gst (hk := ?_) | (show GO _ _ _ _ _ (⟨some _, none, .call _ _⟩ :: _) _; first | (show GO _ _ _ _ _ (⟨some _, none, .call fn_spec_inRange _⟩ :: _) _; refine go_inRange (hk := ?_); try intro u)) | (show GO _ _ _ _ _ (⟨some _, none, _⟩ :: _) _; first | refine go_op (hk := ?_) | (refine go_nw (hk := ?_); intro u; try simp only [llc, lln, lna, lza]) | (refine go_np (hk := ?_); intro id)) | (show GR _ _ _ _ _ _ (⟨some _, none, _⟩ :: _) _; refine gr_op (hk := ?_)) | (show GO _ _ _ _ _ (⟨none, none, _⟩ :: _) _; refine go_st (hk := ?_)) | (show GR _ _ _ _ _ _ (⟨none, none, _⟩ :: _) _; refine gr_st (hk := ?_)) | (show GO _ _ _ _ _ (⟨_, some _, _⟩ :: _) _; first | refine go_in (hk := ?_) | refine go_out (hk := ?_) | refine go_void (hk := ?_)) | (show GK _ _ _ _ (blockK _ _ _); refine gk_past rfl ?_) | (show GC _ _ _ _ _ (.cond _ _ _) _; first | refine gc_yes (h1 := ?_) | refine gc_no (h1 := ?_))))
    exact gk_ret rfl fun H' hH => ⟨by rw [if_neg fun h => h1 h.1]; rfl, hH.leE⟩
  have hS := Decidable.not_not.1 h1
  (repeat (first | refine gst (hk := ?_) | (show GO _ _ _ _ _ (⟨some _, none, .call _ _⟩ :: _) _; first | (show GO _ _ _ _ _ (⟨some _, none, .call fn_spec_inRange _⟩ :: _) _; refine go_inRange (hk := ?_); try intro u)) | (show GO _ _ _ _ _ (⟨some _, none, _⟩ :: _) _; first | refine go_op (hk := ?_) | (refine go_nw (hk := ?_); intro u; try simp only [llc, lln, lna, lza]) | (refine go_np (hk := ?_); intro id)) | (show GR _ _ _ _ _ _ (⟨some _, none, _⟩ :: _) _; refine gr_op (hk := ?_)) | (show GO _ _ _ _ _ (⟨none, none, _⟩ :: _) _; refine go_st (hk := ?_)) | (show GR _ _ _ _ _ _ (⟨none, none, _⟩ :: _) _; refine gr_st (hk := ?_)) | (show GO _ _ _ _ _ (⟨_, some _, _⟩ :: _) _; first | refine go_in (hk := ?_) | refine go_out (hk := ?_) | refine go_void (hk := ?_)) | (show GK _ _ _ _ (blockK _ _ _); refine gk_past rfl ?_) | (show GC _ _ _ _ _ (.cond _ _ _) _; first | refine gc_yes (h1 := ?_) | refine gc_no (h1 := ?_))))
  refine gc_cond rfl (fun h4 => ?_) (fun h4 => ?_)
  · (repeat (first | refine gst (hk := ?_) | (show GO _ _ _ _ _ (⟨some _, none, .call _ _⟩ :: _) _; first | (show GO _ _ _ _ _ (⟨some _, none, .call fn_spec_inRange _⟩ :: _) _; refine go_inRange (hk := ?_); try intro u)) | (show GO _ _ _ _ _ (⟨some _, none, _⟩ :: _) _; first | refine go_op (hk := ?_) | (refine go_nw (hk := ?_); intro u; try simp only [llc, lln, lna, lza]) | (refine go_np (hk := ?_); intro id)) | (show GR _ _ _ _ _ _ (⟨some _, none, _⟩ :: _) _; refine gr_op (hk := ?_)) | (show GO _ _ _ _ _ (⟨none, none, _⟩ :: _) _; refine go_st (hk := ?_)) | (show GR _ _ _ _ _ _ (⟨none, none, _⟩ :: _) _; refine gr_st (hk := ?_)) | (show GO _ _ _ _ _ (⟨_, some _, _⟩ :: _) _; first | refine go_in (hk := ?_) | refine go_out (hk := ?_) | refine go_void (hk := ?_)) | (show GK _ _ _ _ (blockK _ _ _); refine gk_past rfl ?_) | (show GC _ _ _ _ _ (.cond _ _ _) _; first | refine gc_yes (h1 := ?_) | refine gc_no (h1 := ?_))))
    exact gk_ret rfl fun H' hH => ⟨by rw [if_neg fun h => h4 h.2]; rfl, hH.leE⟩
  have h5 := Decidable.not_not.1 h4
  have hn := hS.2.2
  have hn1 := hS.2.1
  rw [if_pos (show PsOk xs p from ⟨hS, h5⟩)]
  obtain ⟨P, rfl⟩ : ∃ P : Nat, p = ((P + 1 : Nat) : Int) := ⟨p.toNat - 1, by omega⟩
  simp only [Int.toNat_natCast]
  rw [show mpV xs (P + 1) = dpF (· + ·) min (apI xs) P xs.length from rfl]
  (repeat (first | refine gst (hk := ?_) | (show GO _ _ _ _ _ (⟨some _, none, .call _ _⟩ :: _) _; first | (show GO _ _ _ _ _ (⟨some _, none, .call fn_spec_inRange _⟩ :: _) _; refine go_inRange (hk := ?_); try intro u)) | (show GO _ _ _ _ _ (⟨some _, none, _⟩ :: _) _; first | refine go_op (hk := ?_) | (refine go_nw (hk := ?_); intro u; try simp only [llc, lln, lna, lza]) | (refine go_np (hk := ?_); intro id)) | (show GR _ _ _ _ _ _ (⟨some _, none, _⟩ :: _) _; refine gr_op (hk := ?_)) | (show GO _ _ _ _ _ (⟨none, none, _⟩ :: _) _; refine go_st (hk := ?_)) | (show GR _ _ _ _ _ _ (⟨none, none, _⟩ :: _) _; refine gr_st (hk := ?_)) | (show GO _ _ _ _ _ (⟨_, some _, _⟩ :: _) _; first | refine go_in (hk := ?_) | refine go_out (hk := ?_) | refine go_void (hk := ?_)) | (show GK _ _ _ _ (blockK _ _ _); refine gk_past rfl ?_) | (show GC _ _ _ _ _ (.cond _ _ _) _; first | refine gc_yes (h1 := ?_) | refine gc_no (h1 := ?_))))
  refine gc_upv xs.length (fun d v => [(0, a), (1, .int .i64 ((P + 1 : Nat) : Int)), (5, .int .i64 (xs.length : Int)), (6, v), (7, .int .i64 ((d + 1 : Nat) : Int))]) (fun d v => [.rwI v (d + 1) (tabS (d + 1) (mmK xs 0)), .roI a xs.length xs]) u (hb := ?_)
  intro d v hd I ν m hk
  (repeat (first | refine gst (hk := ?_) | (show GO _ _ _ _ _ (⟨some _, none, .call _ _⟩ :: _) _; first | (show GO _ _ _ _ _ (⟨some _, none, .call fn_spec_inRange _⟩ :: _) _; refine go_inRange (hk := ?_); try intro u)) | (show GO _ _ _ _ _ (⟨some _, none, _⟩ :: _) _; first | refine go_op (hk := ?_) | (refine go_nw (hk := ?_); intro u; try simp only [llc, lln, lna, lza]) | (refine go_np (hk := ?_); intro id)) | (show GR _ _ _ _ _ _ (⟨some _, none, _⟩ :: _) _; refine gr_op (hk := ?_)) | (show GO _ _ _ _ _ (⟨none, none, _⟩ :: _) _; refine go_st (hk := ?_)) | (show GR _ _ _ _ _ _ (⟨none, none, _⟩ :: _) _; refine gr_st (hk := ?_)) | (show GO _ _ _ _ _ (⟨_, some _, _⟩ :: _) _; first | refine go_in (hk := ?_) | refine go_out (hk := ?_) | refine go_void (hk := ?_)) | (show GK _ _ _ _ (blockK _ _ _); refine gk_past rfl ?_) | (show GC _ _ _ _ _ (.cond _ _ _) _; first | refine gc_yes (h1 := ?_) | refine gc_no (h1 := ?_))))
  refine gc_cond rfl (fun h => ?_) (fun h => ?_)
  · have hk := hk (by omega)
    (repeat (first | refine gst (hk := ?_) | (show GO _ _ _ _ _ (⟨some _, none, .call _ _⟩ :: _) _; first | (show GO _ _ _ _ _ (⟨some _, none, .call fn_spec_inRange _⟩ :: _) _; refine go_inRange (hk := ?_); try intro u)) | (show GO _ _ _ _ _ (⟨some _, none, _⟩ :: _) _; first | refine go_op (hk := ?_) | (refine go_nw (hk := ?_); intro u; try simp only [llc, lln, lna, lza]) | (refine go_np (hk := ?_); intro id)) | (show GR _ _ _ _ _ _ (⟨some _, none, _⟩ :: _) _; refine gr_op (hk := ?_)) | (show GO _ _ _ _ _ (⟨none, none, _⟩ :: _) _; refine go_st (hk := ?_)) | (show GR _ _ _ _ _ _ (⟨none, none, _⟩ :: _) _; refine gr_st (hk := ?_)) | (show GO _ _ _ _ _ (⟨_, some _, _⟩ :: _) _; first | refine go_in (hk := ?_) | refine go_out (hk := ?_) | refine go_void (hk := ?_)) | (show GK _ _ _ _ (blockK _ _ _); refine gk_past rfl ?_) | (show GC _ _ _ _ _ (.cond _ _ _) _; first | refine gc_yes (h1 := ?_) | refine gc_no (h1 := ?_))))
    refine go_callp rfl code_spec_apartOf.callable (fun H hH => specApart_ok (i := 0) (k := d + 1) (hH.ints (by exact Has.auto)) hS (by omega) (by omega)) ?_
    (repeat (first | refine gst (hk := ?_) | (show GO _ _ _ _ _ (⟨some _, none, .call _ _⟩ :: _) _; first | (show GO _ _ _ _ _ (⟨some _, none, .call fn_spec_inRange _⟩ :: _) _; refine go_inRange (hk := ?_); try intro u)) | (show GO _ _ _ _ _ (⟨some _, none, _⟩ :: _) _; first | refine go_op (hk := ?_) | (refine go_nw (hk := ?_); intro u; try simp only [llc, lln, lna, lza]) | (refine go_np (hk := ?_); intro id)) | (show GR _ _ _ _ _ _ (⟨some _, none, _⟩ :: _) _; refine gr_op (hk := ?_)) | (show GO _ _ _ _ _ (⟨none, none, _⟩ :: _) _; refine go_st (hk := ?_)) | (show GR _ _ _ _ _ _ (⟨none, none, _⟩ :: _) _; refine gr_st (hk := ?_)) | (show GO _ _ _ _ _ (⟨_, some _, _⟩ :: _) _; first | refine go_in (hk := ?_) | refine go_out (hk := ?_) | refine go_void (hk := ?_)) | (show GK _ _ _ _ (blockK _ _ _); refine gk_past rfl ?_) | (show GC _ _ _ _ _ (.cond _ _ _) _; first | refine gc_yes (h1 := ?_) | refine gc_no (h1 := ?_))))
    have e : tabS (d + 1) (mmK xs 0) ++ [apI xs 0 (d + 1)] = tabS (d + 1 + 1) (mmK xs 0) := by
      rw [← tabS_snoc (d + 1) (mmK xs 0), show mmK xs 0 (d + 1) = apI xs 0 (d + 1) from if_neg (by omega)]
    rw [e]
    exact gk_next (hk u)
  obtain rfl : d = xs.length := by omega
  (repeat (first | refine gst (hk := ?_) | (show GO _ _ _ _ _ (⟨some _, none, .call _ _⟩ :: _) _; first | (show GO _ _ _ _ _ (⟨some _, none, .call fn_spec_inRange _⟩ :: _) _; refine go_inRange (hk := ?_); try intro u)) | (show GO _ _ _ _ _ (⟨some _, none, _⟩ :: _) _; first | refine go_op (hk := ?_) | (refine go_nw (hk := ?_); intro u; try simp only [llc, lln, lna, lza]) | (refine go_np (hk := ?_); intro id)) | (show GR _ _ _ _ _ _ (⟨some _, none, _⟩ :: _) _; refine gr_op (hk := ?_)) | (show GO _ _ _ _ _ (⟨none, none, _⟩ :: _) _; refine go_st (hk := ?_)) | (show GR _ _ _ _ _ _ (⟨none, none, _⟩ :: _) _; refine gr_st (hk := ?_)) | (show GO _ _ _ _ _ (⟨_, some _, _⟩ :: _) _; first | refine go_in (hk := ?_) | refine go_out (hk := ?_) | refine go_void (hk := ?_)) | (show GK _ _ _ _ (blockK _ _ _); refine gk_past rfl ?_) | (show GC _ _ _ _ _ (.cond _ _ _) _; first | refine gc_yes (h1 := ?_) | refine gc_no (h1 := ?_))))
  refine gc_upv P (fun m v => [(0, a), (1, .int .i64 ((P + 1 : Nat) : Int)), (5, .int .i64 (xs.length : Int)), (6, v), (8, .int .i64 ((m + 2 : Nat) : Int))]) (fun m v => [.rwI v (xs.length + 1) (tabS (xs.length + 1) (mmK xs m)), .roI a xs.length xs]) v (hb := ?_)
  intro q v hq I2 ν2 m2 hk2
  (repeat (first | refine gst (hk := ?_) | (show GO _ _ _ _ _ (⟨some _, none, .call _ _⟩ :: _) _; first | (show GO _ _ _ _ _ (⟨some _, none, .call fn_spec_inRange _⟩ :: _) _; refine go_inRange (hk := ?_); try intro u)) | (show GO _ _ _ _ _ (⟨some _, none, _⟩ :: _) _; first | refine go_op (hk := ?_) | (refine go_nw (hk := ?_); intro u; try simp only [llc, lln, lna, lza]) | (refine go_np (hk := ?_); intro id)) | (show GR _ _ _ _ _ _ (⟨some _, none, _⟩ :: _) _; refine gr_op (hk := ?_)) | (show GO _ _ _ _ _ (⟨none, none, _⟩ :: _) _; refine go_st (hk := ?_)) | (show GR _ _ _ _ _ _ (⟨none, none, _⟩ :: _) _; refine gr_st (hk := ?_)) | (show GO _ _ _ _ _ (⟨_, some _, _⟩ :: _) _; first | refine go_in (hk := ?_) | refine go_out (hk := ?_) | refine go_void (hk := ?_)) | (show GK _ _ _ _ (blockK _ _ _); refine gk_past rfl ?_) | (show GC _ _ _ _ _ (.cond _ _ _) _; first | refine gc_yes (h1 := ?_) | refine gc_no (h1 := ?_))))
  refine gc_cond rfl (fun h => ?_) (fun h => ?_)
  · have hk2 := hk2 (by omega)
    (repeat (first | refine gst (hk := ?_) | (show GO _ _ _ _ _ (⟨some _, none, .call _ _⟩ :: _) _; first | (show GO _ _ _ _ _ (⟨some _, none, .call fn_spec_inRange _⟩ :: _) _; refine go_inRange (hk := ?_); try intro u)) | (show GO _ _ _ _ _ (⟨some _, none, _⟩ :: _) _; first | refine go_op (hk := ?_) | (refine go_nw (hk := ?_); intro u; try simp only [llc, lln, lna, lza]) | (refine go_np (hk := ?_); intro id)) | (show GR _ _ _ _ _ _ (⟨some _, none, _⟩ :: _) _; refine gr_op (hk := ?_)) | (show GO _ _ _ _ _ (⟨none, none, _⟩ :: _) _; refine go_st (hk := ?_)) | (show GR _ _ _ _ _ _ (⟨none, none, _⟩ :: _) _; refine gr_st (hk := ?_)) | (show GO _ _ _ _ _ (⟨_, some _, _⟩ :: _) _; first | refine go_in (hk := ?_) | refine go_out (hk := ?_) | refine go_void (hk := ?_)) | (show GK _ _ _ _ (blockK _ _ _); refine gk_past rfl ?_) | (show GC _ _ _ _ _ (.cond _ _ _) _; first | refine gc_yes (h1 := ?_) | refine gc_no (h1 := ?_))))
    have e0 : tabS (xs.length + 1) (mmK xs q) = tabS (xs.length + 1) (mmT xs q 0 0) := tabS_congr fun k hk => by
      unfold mmT
      by_cases h1 : k = 0 + 1
      · subst h1; rw [if_pos rfl]; exact if_neg (by omega)
      · rw [if_neg h1]
        by_cases h0 : k ≤ 0
        · rw [if_pos h0, show k = 0 by omega]; rfl
        · rw [if_neg h0]
    rw [e0]
    refine gc_up xs.length (fun d => [(0, a), (1, .int .i64 ((P + 1 : Nat) : Int)), (5, .int .i64 (xs.length : Int)), (6, v), (8, .int .i64 ((q + 2 : Nat) : Int)), (9, u), (10, .int .i64 ((d + 1 : Nat) : Int))]) (fun d => [.rwI u (xs.length + 1) (tabS (xs.length + 1) (mmT xs q d 0)), .rwI v (xs.length + 1) (tabS (xs.length + 1) (mmK xs q)), .roI a xs.length xs]) (hS := ?_) (hb := ?_)
    · rw [← e0]; exact Sub.auto
    intro d hd I3 ν3 m3 hk3
    (repeat (first | refine gst (hk := ?_) | (show GO _ _ _ _ _ (⟨some _, none, .call _ _⟩ :: _) _; first | (show GO _ _ _ _ _ (⟨some _, none, .call fn_spec_inRange _⟩ :: _) _; refine go_inRange (hk := ?_); try intro u)) | (show GO _ _ _ _ _ (⟨some _, none, _⟩ :: _) _; first | refine go_op (hk := ?_) | (refine go_nw (hk := ?_); intro u; try simp only [llc, lln, lna, lza]) | (refine go_np (hk := ?_); intro id)) | (show GR _ _ _ _ _ _ (⟨some _, none, _⟩ :: _) _; refine gr_op (hk := ?_)) | (show GO _ _ _ _ _ (⟨none, none, _⟩ :: _) _; refine go_st (hk := ?_)) | (show GR _ _ _ _ _ _ (⟨none, none, _⟩ :: _) _; refine gr_st (hk := ?_)) | (show GO _ _ _ _ _ (⟨_, some _, _⟩ :: _) _; first | refine go_in (hk := ?_) | refine go_out (hk := ?_) | refine go_void (hk := ?_)) | (show GK _ _ _ _ (blockK _ _ _); refine gk_past rfl ?_) | (show GC _ _ _ _ _ (.cond _ _ _) _; first | refine gc_yes (h1 := ?_) | refine gc_no (h1 := ?_))))
    refine gc_cond rfl (fun h => ?_) (fun h => ?_)
    · have hk3 := hk3 (by omega)
      (repeat (first | refine gst (hk := ?_) | (show GO _ _ _ _ _ (⟨some _, none, .call _ _⟩ :: _) _; first | (show GO _ _ _ _ _ (⟨some _, none, .call fn_spec_inRange _⟩ :: _) _; refine go_inRange (hk := ?_); try intro u)) | (show GO _ _ _ _ _ (⟨some _, none, _⟩ :: _) _; first | refine go_op (hk := ?_) | (refine go_nw (hk := ?_); intro u; try simp only [llc, lln, lna, lza]) | (refine go_np (hk := ?_); intro id)) | (show GR _ _ _ _ _ _ (⟨some _, none, _⟩ :: _) _; refine gr_op (hk := ?_)) | (show GO _ _ _ _ _ (⟨none, none, _⟩ :: _) _; refine go_st (hk := ?_)) | (show GR _ _ _ _ _ _ (⟨none, none, _⟩ :: _) _; refine gr_st (hk := ?_)) | (show GO _ _ _ _ _ (⟨_, some _, _⟩ :: _) _; first | refine go_in (hk := ?_) | refine go_out (hk := ?_) | refine go_void (hk := ?_)) | (show GK _ _ _ _ (blockK _ _ _); refine gk_past rfl ?_) | (show GC _ _ _ _ _ (.cond _ _ _) _; first | refine gc_yes (h1 := ?_) | refine gc_no (h1 := ?_))))
      refine gc_up d (fun t => [(0, a), (1, .int .i64 ((P + 1 : Nat) : Int)), (5, .int .i64 (xs.length : Int)), (6, v), (8, .int .i64 ((q + 2 : Nat) : Int)), (9, u), (10, .int .i64 ((d + 1 : Nat) : Int)), (11, .int .i64 ((t + 1 : Nat) : Int))]) (fun t => [.rwI u (xs.length + 1) (tabS (xs.length + 1) (mmT xs q d t)), .rwI v (xs.length + 1) (tabS (xs.length + 1) (mmK xs q)), .roI a xs.length xs]) (hb := ?_)
      intro t ht I4 ν4 m4 hk4
      (repeat (first | refine gst (hk := ?_) | (show GO _ _ _ _ _ (⟨some _, none, .call _ _⟩ :: _) _; first | (show GO _ _ _ _ _ (⟨some _, none, .call fn_spec_inRange _⟩ :: _) _; refine go_inRange (hk := ?_); try intro u)) | (show GO _ _ _ _ _ (⟨some _, none, _⟩ :: _) _; first | refine go_op (hk := ?_) | (refine go_nw (hk := ?_); intro u; try simp only [llc, lln, lna, lza]) | (refine go_np (hk := ?_); intro id)) | (show GR _ _ _ _ _ _ (⟨some _, none, _⟩ :: _) _; refine gr_op (hk := ?_)) | (show GO _ _ _ _ _ (⟨none, none, _⟩ :: _) _; refine go_st (hk := ?_)) | (show GR _ _ _ _ _ _ (⟨none, none, _⟩ :: _) _; refine gr_st (hk := ?_)) | (show GO _ _ _ _ _ (⟨_, some _, _⟩ :: _) _; first | refine go_in (hk := ?_) | refine go_out (hk := ?_) | refine go_void (hk := ?_)) | (show GK _ _ _ _ (blockK _ _ _); refine gk_past rfl ?_) | (show GC _ _ _ _ _ (.cond _ _ _) _; first | refine gc_yes (h1 := ?_) | refine gc_no (h1 := ?_))))
      refine gc_cond rfl (fun h => ?_) (fun h => ?_)
      · have hk4 := hk4 (by omega)
        have g1 := hS.mm_bd (m := q) (k := t + 1) (by omega) (by omega)
        have g2 := ap_bd hS.1 (t + 1) (d + 1)
        rw [win_len2 (by omega)] at g2
        have n1 : nth (tabS (xs.length + 1) (mmK xs q)) (t + 1) = dpF (· + ·) min (apI xs) q (t + 1) := (tabS_nthI (by omega)).trans (if_neg (by omega))
        have n2 : nth (tabS (xs.length + 1) (mmT xs q d t)) (d + 1) = seqm min (dpF (· + ·) min (apI xs) q (d + 1)) (fun i => dpF (· + ·) min (apI xs) q i + apI xs i (d + 1)) t := (tabS_nthI (by omega)).trans (if_pos rfl)
        (repeat (first | refine gst (hk := ?_) | (show GO _ _ _ _ _ (⟨some _, none, .call _ _⟩ :: _) _; first | (show GO _ _ _ _ _ (⟨some _, none, .call fn_spec_inRange _⟩ :: _) _; refine go_inRange (hk := ?_); try intro u)) | (show GO _ _ _ _ _ (⟨some _, none, _⟩ :: _) _; first | refine go_op (hk := ?_) | (refine go_nw (hk := ?_); intro u; try simp only [llc, lln, lna, lza]) | (refine go_np (hk := ?_); intro id)) | (show GR _ _ _ _ _ _ (⟨some _, none, _⟩ :: _) _; refine gr_op (hk := ?_)) | (show GO _ _ _ _ _ (⟨none, none, _⟩ :: _) _; refine go_st (hk := ?_)) | (show GR _ _ _ _ _ _ (⟨none, none, _⟩ :: _) _; refine gr_st (hk := ?_)) | (show GO _ _ _ _ _ (⟨_, some _, _⟩ :: _) _; first | refine go_in (hk := ?_) | refine go_out (hk := ?_) | refine go_void (hk := ?_)) | (show GK _ _ _ _ (blockK _ _ _); refine gk_past rfl ?_) | (show GC _ _ _ _ _ (.cond _ _ _) _; first | refine gc_yes (h1 := ?_) | refine gc_no (h1 := ?_))))
        refine gc_drcs (fun H => qtTab [(fn_spec_apartOf, dOne [a, .int .i64 ((t + 1 : Nat) : Int), .int .i64 ((d + 1 : Nat) : Int)] (.int .i64 (apI xs (t + 1) (d + 1))))]) (fun H hH => qtTab_cons (dOne_ok code_spec_apartOf.callable (specApart_ok (hH.ints (by exact Has.auto)) hS (by omega) (by omega))) qtTab_nil) (fun H0 h0 => ?_)
        (repeat (first | refine gst (hk := ?_) | (show GO _ _ _ _ _ (⟨some _, none, .call _ _⟩ :: _) _; first | (show GO _ _ _ _ _ (⟨some _, none, .call fn_spec_inRange _⟩ :: _) _; refine go_inRange (hk := ?_); try intro u)) | (show GO _ _ _ _ _ (⟨some _, none, _⟩ :: _) _; first | refine go_op (hk := ?_) | (refine go_nw (hk := ?_); intro u; try simp only [llc, lln, lna, lza]) | (refine go_np (hk := ?_); intro id)) | (show GR _ _ _ _ _ _ (⟨some _, none, _⟩ :: _) _; refine gr_op (hk := ?_)) | (show GO _ _ _ _ _ (⟨none, none, _⟩ :: _) _; refine go_st (hk := ?_)) | (show GR _ _ _ _ _ _ (⟨none, none, _⟩ :: _) _; refine gr_st (hk := ?_)) | (show GO _ _ _ _ _ (⟨_, some _, _⟩ :: _) _; first | refine go_in (hk := ?_) | refine go_out (hk := ?_) | refine go_void (hk := ?_)) | (show GK _ _ _ _ (blockK _ _ _); refine gk_past rfl ?_) | (show GC _ _ _ _ _ (.cond _ _ _) _; first | refine gc_yes (h1 := ?_) | refine gc_no (h1 := ?_))))
        refine gr_call rfl dOne_is ?_
        rw [n1, n2]
        have e4 : (tabS (xs.length + 1) (mmT xs q d t)).set (d + 1) (min (seqm min (dpF (· + ·) min (apI xs) q (d + 1)) (fun i => dpF (· + ·) min (apI xs) q i + apI xs i (d + 1)) t) (dpF (· + ·) min (apI xs) q (t + 1) + apI xs (t + 1) (d + 1))) = tabS (xs.length + 1) (mmT xs q d (t + 1)) := by
          rw [tabS_set]
          exact tabS_congr fun k hk => by
            by_cases h1 : k = d + 1
            · subst h1; rw [if_pos rfl, mmT, if_pos rfl, seqm]
            · rw [if_neg h1, mmT, mmT, if_neg h1, if_neg h1]
        (repeat (first | refine gst (hk := ?_) | (show GO _ _ _ _ _ (⟨some _, none, .call _ _⟩ :: _) _; first | (show GO _ _ _ _ _ (⟨some _, none, .call fn_spec_inRange _⟩ :: _) _; refine go_inRange (hk := ?_); try intro u)) | (show GO _ _ _ _ _ (⟨some _, none, _⟩ :: _) _; first | refine go_op (hk := ?_) | (refine go_nw (hk := ?_); intro u; try simp only [llc, lln, lna, lza]) | (refine go_np (hk := ?_); intro id)) | (show GR _ _ _ _ _ _ (⟨some _, none, _⟩ :: _) _; refine gr_op (hk := ?_)) | (show GO _ _ _ _ _ (⟨none, none, _⟩ :: _) _; refine go_st (hk := ?_)) | (show GR _ _ _ _ _ _ (⟨none, none, _⟩ :: _) _; refine gr_st (hk := ?_)) | (show GO _ _ _ _ _ (⟨_, some _, _⟩ :: _) _; first | refine go_in (hk := ?_) | refine go_out (hk := ?_) | refine go_void (hk := ?_)) | (show GK _ _ _ _ (blockK _ _ _); refine gk_past rfl ?_) | (show GC _ _ _ _ _ (.cond _ _ _) _; first | refine gc_yes (h1 := ?_) | refine gc_no (h1 := ?_))))
        rw [e4]
        exact gk_next hk4
      · obtain rfl : t = d := by omega
        (repeat (first | refine gst (hk := ?_) | (show GO _ _ _ _ _ (⟨some _, none, .call _ _⟩ :: _) _; first | (show GO _ _ _ _ _ (⟨some _, none, .call fn_spec_inRange _⟩ :: _) _; refine go_inRange (hk := ?_); try intro u)) | (show GO _ _ _ _ _ (⟨some _, none, _⟩ :: _) _; first | refine go_op (hk := ?_) | (refine go_nw (hk := ?_); intro u; try simp only [llc, lln, lna, lza]) | (refine go_np (hk := ?_); intro id)) | (show GR _ _ _ _ _ _ (⟨some _, none, _⟩ :: _) _; refine gr_op (hk := ?_)) | (show GO _ _ _ _ _ (⟨none, none, _⟩ :: _) _; refine go_st (hk := ?_)) | (show GR _ _ _ _ _ _ (⟨none, none, _⟩ :: _) _; refine gr_st (hk := ?_)) | (show GO _ _ _ _ _ (⟨_, some _, _⟩ :: _) _; first | refine go_in (hk := ?_) | refine go_out (hk := ?_) | refine go_void (hk := ?_)) | (show GK _ _ _ _ (blockK _ _ _); refine gk_past rfl ?_) | (show GC _ _ _ _ _ (.cond _ _ _) _; first | refine gc_yes (h1 := ?_) | refine gc_no (h1 := ?_))))
        have e5 : tabS (xs.length + 1) (mmT xs q t t) = tabS (xs.length + 1) (mmT xs q (t + 1) 0) := tabS_congr fun k hk => by
          unfold mmT
          by_cases h1 : k = t + 1
          · subst h1
            rw [if_pos rfl, if_neg (by omega), if_pos (Nat.le_refl _)]
            exact (if_neg (by omega)).symm
          · rw [if_neg h1]
            by_cases h2 : k = t + 1 + 1
            · subst h2
              rw [if_neg (by omega), if_pos rfl]
              exact if_neg (by omega)
            · rw [if_neg h2]
              by_cases h3 : k ≤ t
              · rw [if_pos h3, if_pos (by omega)]
              · rw [if_neg h3, if_neg (by omega)]
        rw [e5]
        exact gk_next hk3
    · obtain rfl : d = xs.length := by omega
      (repeat (first | refine gst (hk := ?_) | (show GO _ _ _ _ _ (⟨some _, none, .call _ _⟩ :: _) _; first | (show GO _ _ _ _ _ (⟨some _, none, .call fn_spec_inRange _⟩ :: _) _; refine go_inRange (hk := ?_); try intro u)) | (show GO _ _ _ _ _ (⟨some _, none, _⟩ :: _) _; first | refine go_op (hk := ?_) | (refine go_nw (hk := ?_); intro u; try simp only [llc, lln, lna, lza]) | (refine go_np (hk := ?_); intro id)) | (show GR _ _ _ _ _ _ (⟨some _, none, _⟩ :: _) _; refine gr_op (hk := ?_)) | (show GO _ _ _ _ _ (⟨none, none, _⟩ :: _) _; refine go_st (hk := ?_)) | (show GR _ _ _ _ _ _ (⟨none, none, _⟩ :: _) _; refine gr_st (hk := ?_)) | (show GO _ _ _ _ _ (⟨_, some _, _⟩ :: _) _; first | refine go_in (hk := ?_) | refine go_out (hk := ?_) | refine go_void (hk := ?_)) | (show GK _ _ _ _ (blockK _ _ _); refine gk_past rfl ?_) | (show GC _ _ _ _ _ (.cond _ _ _) _; first | refine gc_yes (h1 := ?_) | refine gc_no (h1 := ?_))))
      have e3 : tabS (xs.length + 1) (mmT xs q xs.length 0) = tabS (xs.length + 1) (mmK xs (q + 1)) := tabS_congr fun k hk => by
        unfold mmT
        rw [if_neg (by omega), if_pos (by omega)]
      rw [e3]
      exact gk_next (hk2 u)
  · obtain rfl : q = P := by omega
    (repeat (first | refine gst (hk := ?_) | (show GO _ _ _ _ _ (⟨some _, none, .call _ _⟩ :: _) _; first | (show GO _ _ _ _ _ (⟨some _, none, .call fn_spec_inRange _⟩ :: _) _; refine go_inRange (hk := ?_); try intro u)) | (show GO _ _ _ _ _ (⟨some _, none, _⟩ :: _) _; first | refine go_op (hk := ?_) | (refine go_nw (hk := ?_); intro u; try simp only [llc, lln, lna, lza]) | (refine go_np (hk := ?_); intro id)) | (show GR _ _ _ _ _ _ (⟨some _, none, _⟩ :: _) _; refine gr_op (hk := ?_)) | (show GO _ _ _ _ _ (⟨none, none, _⟩ :: _) _; refine go_st (hk := ?_)) | (show GR _ _ _ _ _ _ (⟨none, none, _⟩ :: _) _; refine gr_st (hk := ?_)) | (show GO _ _ _ _ _ (⟨_, some _, _⟩ :: _) _; first | refine go_in (hk := ?_) | refine go_out (hk := ?_) | refine go_void (hk := ?_)) | (show GK _ _ _ _ (blockK _ _ _); refine gk_past rfl ?_) | (show GC _ _ _ _ _ (.cond _ _ _) _; first | refine gc_yes (h1 := ?_) | refine gc_no (h1 := ?_))))
    exact gk_ret rfl fun H' hH => ⟨by
      show AV.int _ _ = _
      rw [show nth (tabS (xs.length + 1) (mmK xs q)) xs.length = dpF (· + ·) min (apI xs) q xs.length from (tabS_nthI (by omega)).trans (if_neg (by omega))], hH.leE⟩

theorem stepList_ok {A : Heap} {X : List Nat} {S S0 : Sig} {H : Heap} {id p : Nat} {bv : AV} {bs : List Int} (hS : SOk A X S H.size H) (hs : Sel S (rdr id bv p) S0) (hR : SubF S0 [byt bv bs]) (hb : ByteOk bs) (hp : p ≤ 1000000) :
    ACalls Try.prog fn_spec_stepList [.ptr id 0] H fun r H' => ∃ g : DG, r = g.u ∧ SOk A X (.rwI g.u g.xs.length g.xs :: rdr id bv g.q :: S0) H'.size H' ∧ g.xs.length ≤ 21 ∧ Bd 1000 g.xs ∧ g.q ≤ p + 50 := by
  refine code_spec_stepList.gowg (V := DG.u) (T := fun g => [.rwI g.u g.xs.length g.xs]) (C := fun g => rdr id bv g.q) (Φ := fun g => g.xs.length ≤ 21 ∧ Bd 1000 g.xs ∧ g.q ≤ p + 50) hS hs rfl hR rfl (fun _ => rfl) (fun _ => rfl) (fun _ => rfl) (by simp) ?_
  intro X'
  unfold mc_spec_stepList
  (repeat (first | refine gst (hk := ?_) | (show GO _ _ _ _ _ (⟨some _, none, .call _ _⟩ :: _) _; first | (refine go_callg rfl code_spec_reader_one.callable (fun H hH => one_ok hH (by exact Sel.auto) (by exact SubF.auto) (by rfl) (by assumption) (by omega) (by first | omega | decide) (by first | omega | decide)) ?_; intro g hg) | (refine go_callg rfl code_spec_reader_pick.callable (fun H hH => pick_ok hH (by exact Sel.auto) (by exact SubF.auto) (by assumption) (by omega)) ?_; intro g hg)) | (show GO _ _ _ _ _ (⟨some _, none, _⟩ :: _) _; first | refine go_op (hk := ?_) | (refine go_nw (hk := ?_); intro u; try simp only [llc, lln, lna, lza]) | (refine go_np (hk := ?_); intro id)) | (show GO _ _ _ _ _ (⟨none, none, _⟩ :: _) _; refine go_st (hk := ?_)) | (show GO _ _ _ _ _ (⟨_, some _, _⟩ :: _) _; first | refine go_in (hk := ?_) | refine go_out (hk := ?_) | refine go_void (hk := ?_)) | (show GK _ _ _ _ (blockK _ _ _); refine gk_past rfl ?_) | (show GC _ _ _ _ _ (.cond _ _ _) _; first | refine gc_yes (h1 := ?_) | refine gc_no (h1 := ?_))))
  rename_i u3
  obtain ⟨n, rfl⟩ : ∃ z, z = g := ⟨g, rfl⟩
  have hn7 : n ≤ 8 := by simp only [List.mem_cons, List.not_mem_nil, or_false] at hg; omega
  clear hg
  refine gc_loop (γ := DG × Int) (fun t => [(0, .ptr id 0), (3, t.1.u), (4, .int .i64 t.2), (5, .int .i64 n)]) (fun t => [.rwI t.1.u t.1.xs.length t.1.xs, rdr id bv t.1.q, byt bv bs]) (fun t => t.1.xs.length ≤ 8 ∧ Bd 1000 t.1.xs ∧ (-15 ≤ t.2 ∧ t.2 ≤ 15) ∧ t.1.q ≤ p + 1 + 3 * t.1.xs.length) (fun t => 8 - t.1.xs.length) (⟨u3, [], p + 1⟩, 0) ⟨by simp, fun x hx => by simp at hx, by simp, by simp⟩ (hb := ?_)
  rintro ⟨⟨w3, xs, q⟩, h0⟩ ⟨h1, h3, h4, h5⟩ I ν m hk
  simp only at h1 h3 h4 h5 hk ⊢
  (repeat (first | refine gst (hk := ?_) | (show GO _ _ _ _ _ (⟨some _, none, .call _ _⟩ :: _) _; first | (refine go_callg rfl code_spec_reader_one.callable (fun H hH => one_ok hH (by exact Sel.auto) (by exact SubF.auto) (by rfl) (by assumption) (by omega) (by first | omega | decide) (by first | omega | decide)) ?_; intro g hg) | (refine go_callg rfl code_spec_reader_pick.callable (fun H hH => pick_ok hH (by exact Sel.auto) (by exact SubF.auto) (by assumption) (by omega)) ?_; intro g hg)) | (show GO _ _ _ _ _ (⟨some _, none, _⟩ :: _) _; first | refine go_op (hk := ?_) | (refine go_nw (hk := ?_); intro u; try simp only [llc, lln, lna, lza]) | (refine go_np (hk := ?_); intro id)) | (show GO _ _ _ _ _ (⟨none, none, _⟩ :: _) _; refine go_st (hk := ?_)) | (show GO _ _ _ _ _ (⟨_, some _, _⟩ :: _) _; first | refine go_in (hk := ?_) | refine go_out (hk := ?_) | refine go_void (hk := ?_)) | (show GK _ _ _ _ (blockK _ _ _); refine gk_past rfl ?_) | (show GC _ _ _ _ _ (.cond _ _ _) _; first | refine gc_yes (h1 := ?_) | refine gc_no (h1 := ?_))))
  refine gc_cond rfl (fun h6 => ?_) (fun h6 => ?_)
  · (repeat (first | refine gst (hk := ?_) | (show GO _ _ _ _ _ (⟨some _, none, .call _ _⟩ :: _) _; first | (refine go_callg rfl code_spec_reader_one.callable (fun H hH => one_ok hH (by exact Sel.auto) (by exact SubF.auto) (by rfl) (by assumption) (by omega) (by first | omega | decide) (by first | omega | decide)) ?_; intro g hg) | (refine go_callg rfl code_spec_reader_pick.callable (fun H hH => pick_ok hH (by exact Sel.auto) (by exact SubF.auto) (by assumption) (by omega)) ?_; intro g hg)) | (show GO _ _ _ _ _ (⟨some _, none, _⟩ :: _) _; first | refine go_op (hk := ?_) | (refine go_nw (hk := ?_); intro u; try simp only [llc, lln, lna, lza]) | (refine go_np (hk := ?_); intro id)) | (show GO _ _ _ _ _ (⟨none, none, _⟩ :: _) _; refine go_st (hk := ?_)) | (show GO _ _ _ _ _ (⟨_, some _, _⟩ :: _) _; first | refine go_in (hk := ?_) | refine go_out (hk := ?_) | refine go_void (hk := ?_)) | (show GK _ _ _ _ (blockK _ _ _); refine gk_past rfl ?_) | (show GC _ _ _ _ _ (.cond _ _ _) _; first | refine gc_yes (h1 := ?_) | refine gc_no (h1 := ?_))))
    refine gc_cond rfl (fun h7 => ?_) (fun h7 => ?_)
    · (repeat (first | refine gst (hk := ?_) | (show GO _ _ _ _ _ (⟨some _, none, .call _ _⟩ :: _) _; first | (refine go_callg rfl code_spec_reader_one.callable (fun H hH => one_ok hH (by exact Sel.auto) (by exact SubF.auto) (by rfl) (by assumption) (by omega) (by first | omega | decide) (by first | omega | decide)) ?_; intro g hg) | (refine go_callg rfl code_spec_reader_pick.callable (fun H hH => pick_ok hH (by exact Sel.auto) (by exact SubF.auto) (by assumption) (by omega)) ?_; intro g hg)) | (show GO _ _ _ _ _ (⟨some _, none, _⟩ :: _) _; first | refine go_op (hk := ?_) | (refine go_nw (hk := ?_); intro u; try simp only [llc, lln, lna, lza]) | (refine go_np (hk := ?_); intro id)) | (show GO _ _ _ _ _ (⟨none, none, _⟩ :: _) _; refine go_st (hk := ?_)) | (show GO _ _ _ _ _ (⟨_, some _, _⟩ :: _) _; first | refine go_in (hk := ?_) | refine go_out (hk := ?_) | refine go_void (hk := ?_)) | (show GK _ _ _ _ (blockK _ _ _); refine gk_past rfl ?_) | (show GC _ _ _ _ _ (.cond _ _ _) _; first | refine gc_yes (h1 := ?_) | refine gc_no (h1 := ?_))))
      rename_i p1 hp1 p2 hp2 ua
      have hx : -1000 ≤ p2 - 15 + g ∧ p2 - 15 + g ≤ 1000 := by omega
      have hk := hk (⟨u, xs ++ [p2 - 15 + g], q + 1 + 1 + 1⟩, p2 - 15) ⟨by simp; omega, h3.app (Bd.one hx), by simp only; omega, by simp only [List.length_append, List.length_cons, List.length_nil]; omega⟩ (by simp; omega)
      simp only [List.length_append, List.length_cons, List.length_nil, Nat.zero_add] at hk
      exact gk_next hk
    · (repeat (first | refine gst (hk := ?_) | (show GO _ _ _ _ _ (⟨some _, none, .call _ _⟩ :: _) _; first | (refine go_callg rfl code_spec_reader_one.callable (fun H hH => one_ok hH (by exact Sel.auto) (by exact SubF.auto) (by rfl) (by assumption) (by omega) (by first | omega | decide) (by first | omega | decide)) ?_; intro g hg) | (refine go_callg rfl code_spec_reader_pick.callable (fun H hH => pick_ok hH (by exact Sel.auto) (by exact SubF.auto) (by assumption) (by omega)) ?_; intro g hg)) | (show GO _ _ _ _ _ (⟨some _, none, _⟩ :: _) _; first | refine go_op (hk := ?_) | (refine go_nw (hk := ?_); intro u; try simp only [llc, lln, lna, lza]) | (refine go_np (hk := ?_); intro id)) | (show GO _ _ _ _ _ (⟨none, none, _⟩ :: _) _; refine go_st (hk := ?_)) | (show GO _ _ _ _ _ (⟨_, some _, _⟩ :: _) _; first | refine go_in (hk := ?_) | refine go_out (hk := ?_) | refine go_void (hk := ?_)) | (show GK _ _ _ _ (blockK _ _ _); refine gk_past rfl ?_) | (show GC _ _ _ _ _ (.cond _ _ _) _; first | refine gc_yes (h1 := ?_) | refine gc_no (h1 := ?_))))
      rename_i p1 hp1 ua
      have hx : -1000 ≤ h0 + g ∧ h0 + g ≤ 1000 := by omega
      have hk := hk (⟨u, xs ++ [h0 + g], q + 1 + 1⟩, h0) ⟨by simp; omega, h3.app (Bd.one hx), by simp only; omega, by simp only [List.length_append, List.length_cons, List.length_nil]; omega⟩ (by simp; omega)
      simp only [List.length_append, List.length_cons, List.length_nil, Nat.zero_add] at hk
      exact gk_next hk
  (repeat (first | refine gst (hk := ?_) | (show GO _ _ _ _ _ (⟨some _, none, .call _ _⟩ :: _) _; first | (refine go_callg rfl code_spec_reader_one.callable (fun H hH => one_ok hH (by exact Sel.auto) (by exact SubF.auto) (by rfl) (by assumption) (by omega) (by first | omega | decide) (by first | omega | decide)) ?_; intro g hg) | (refine go_callg rfl code_spec_reader_pick.callable (fun H hH => pick_ok hH (by exact Sel.auto) (by exact SubF.auto) (by assumption) (by omega)) ?_; intro g hg)) | (show GO _ _ _ _ _ (⟨some _, none, _⟩ :: _) _; first | refine go_op (hk := ?_) | (refine go_nw (hk := ?_); intro u; try simp only [llc, lln, lna, lza]) | (refine go_np (hk := ?_); intro id)) | (show GO _ _ _ _ _ (⟨none, none, _⟩ :: _) _; refine go_st (hk := ?_)) | (show GO _ _ _ _ _ (⟨_, some _, _⟩ :: _) _; first | refine go_in (hk := ?_) | refine go_out (hk := ?_) | refine go_void (hk := ?_)) | (show GK _ _ _ _ (blockK _ _ _); refine gk_past rfl ?_) | (show GC _ _ _ _ _ (.cond _ _ _) _; first | refine gc_yes (h1 := ?_) | refine gc_no (h1 := ?_))))
  refine gc_cond rfl (fun h7 => ?_) (fun h7 => ?_)
  · (repeat (first | refine gst (hk := ?_) | (show GO _ _ _ _ _ (⟨some _, none, .call _ _⟩ :: _) _; first | (refine go_callg rfl code_spec_reader_one.callable (fun H hH => one_ok hH (by exact Sel.auto) (by exact SubF.auto) (by rfl) (by assumption) (by omega) (by first | omega | decide) (by first | omega | decide)) ?_; intro g hg) | (refine go_callg rfl code_spec_reader_pick.callable (fun H hH => pick_ok hH (by exact Sel.auto) (by exact SubF.auto) (by assumption) (by omega)) ?_; intro g hg)) | (show GO _ _ _ _ _ (⟨some _, none, _⟩ :: _) _; first | refine go_op (hk := ?_) | (refine go_nw (hk := ?_); intro u; try simp only [llc, lln, lna, lza]) | (refine go_np (hk := ?_); intro id)) | (show GO _ _ _ _ _ (⟨none, none, _⟩ :: _) _; refine go_st (hk := ?_)) | (show GO _ _ _ _ _ (⟨_, some _, _⟩ :: _) _; first | refine go_in (hk := ?_) | refine go_out (hk := ?_) | refine go_void (hk := ?_)) | (show GK _ _ _ _ (blockK _ _ _); refine gk_past rfl ?_) | (show GC _ _ _ _ _ (.cond _ _ _) _; first | refine gc_yes (h1 := ?_) | refine gc_no (h1 := ?_))))
    refine gk_ret rfl fun H' hH => ⟨⟨u, xs ++ [31], q + 1⟩, rfl, ⟨by simp; omega, h3.app (Bd.one (by omega)), by simp only; omega⟩, ?_⟩
    show SOk H X' [.rwI u (xs ++ [31]).length (xs ++ [31]), rdr id bv (q + 1)] H'.size H'
    rw [show (xs ++ [(31 : Int)]).length = xs.length + 1 by simp]
    exact hH.sub (by exact Sub.auto)
  (repeat (first | refine gst (hk := ?_) | (show GO _ _ _ _ _ (⟨some _, none, .call _ _⟩ :: _) _; first | (refine go_callg rfl code_spec_reader_one.callable (fun H hH => one_ok hH (by exact Sel.auto) (by exact SubF.auto) (by rfl) (by assumption) (by omega) (by first | omega | decide) (by first | omega | decide)) ?_; intro g hg) | (refine go_callg rfl code_spec_reader_pick.callable (fun H hH => pick_ok hH (by exact Sel.auto) (by exact SubF.auto) (by assumption) (by omega)) ?_; intro g hg)) | (show GO _ _ _ _ _ (⟨some _, none, _⟩ :: _) _; first | refine go_op (hk := ?_) | (refine go_nw (hk := ?_); intro u; try simp only [llc, lln, lna, lza]) | (refine go_np (hk := ?_); intro id)) | (show GO _ _ _ _ _ (⟨none, none, _⟩ :: _) _; refine go_st (hk := ?_)) | (show GO _ _ _ _ _ (⟨_, some _, _⟩ :: _) _; first | refine go_in (hk := ?_) | refine go_out (hk := ?_) | refine go_void (hk := ?_)) | (show GK _ _ _ _ (blockK _ _ _); refine gk_past rfl ?_) | (show GC _ _ _ _ _ (.cond _ _ _) _; first | refine gc_yes (h1 := ?_) | refine gc_no (h1 := ?_))))
  refine gc_cond rfl (fun h8 => ?_) (fun h8 => ?_)
  · (repeat (first | refine gst (hk := ?_) | (show GO _ _ _ _ _ (⟨some _, none, .call _ _⟩ :: _) _; first | (refine go_callg rfl code_spec_reader_one.callable (fun H hH => one_ok hH (by exact Sel.auto) (by exact SubF.auto) (by rfl) (by assumption) (by omega) (by first | omega | decide) (by first | omega | decide)) ?_; intro g hg) | (refine go_callg rfl code_spec_reader_pick.callable (fun H hH => pick_ok hH (by exact Sel.auto) (by exact SubF.auto) (by assumption) (by omega)) ?_; intro g hg)) | (show GO _ _ _ _ _ (⟨some _, none, _⟩ :: _) _; first | refine go_op (hk := ?_) | (refine go_nw (hk := ?_); intro u; try simp only [llc, lln, lna, lza]) | (refine go_np (hk := ?_); intro id)) | (show GO _ _ _ _ _ (⟨none, none, _⟩ :: _) _; refine go_st (hk := ?_)) | (show GO _ _ _ _ _ (⟨_, some _, _⟩ :: _) _; first | refine go_in (hk := ?_) | refine go_out (hk := ?_) | refine go_void (hk := ?_)) | (show GK _ _ _ _ (blockK _ _ _); refine gk_past rfl ?_) | (show GC _ _ _ _ _ (.cond _ _ _) _; first | refine gc_yes (h1 := ?_) | refine gc_no (h1 := ?_))))
    refine gk_ret rfl fun H' hH => ⟨⟨u, xs ++ [1, 1, 1, 1, 1, 1, 1, 1, 1], q + 1⟩, rfl, ⟨by simp; omega, h3.app (fun x hx => by simp at hx; omega), by simp only; omega⟩, ?_⟩
    show SOk H X' [.rwI u (xs ++ [1, 1, 1, 1, 1, 1, 1, 1, 1]).length (xs ++ [1, 1, 1, 1, 1, 1, 1, 1, 1]), rdr id bv (q + 1)] H'.size H'
    rw [show (xs ++ [(1 : Int), 1, 1, 1, 1, 1, 1, 1, 1]).length = xs.length + 9 by simp]
    exact hH.sub (by exact Sub.auto)
  (repeat (first | refine gst (hk := ?_) | (show GO _ _ _ _ _ (⟨some _, none, .call _ _⟩ :: _) _; first | (refine go_callg rfl code_spec_reader_one.callable (fun H hH => one_ok hH (by exact Sel.auto) (by exact SubF.auto) (by rfl) (by assumption) (by omega) (by first | omega | decide) (by first | omega | decide)) ?_; intro g hg) | (refine go_callg rfl code_spec_reader_pick.callable (fun H hH => pick_ok hH (by exact Sel.auto) (by exact SubF.auto) (by assumption) (by omega)) ?_; intro g hg)) | (show GO _ _ _ _ _ (⟨some _, none, _⟩ :: _) _; first | refine go_op (hk := ?_) | (refine go_nw (hk := ?_); intro u; try simp only [llc, lln, lna, lza]) | (refine go_np (hk := ?_); intro id)) | (show GO _ _ _ _ _ (⟨none, none, _⟩ :: _) _; refine go_st (hk := ?_)) | (show GO _ _ _ _ _ (⟨_, some _, _⟩ :: _) _; first | refine go_in (hk := ?_) | refine go_out (hk := ?_) | refine go_void (hk := ?_)) | (show GK _ _ _ _ (blockK _ _ _); refine gk_past rfl ?_) | (show GC _ _ _ _ _ (.cond _ _ _) _; first | refine gc_yes (h1 := ?_) | refine gc_no (h1 := ?_))))
  exact gk_ret rfl fun H' hH => ⟨⟨w3, xs, q + 1⟩, rfl, ⟨by simp only; omega, h3, by simp only; omega⟩, hH.sub (by exact Sub.auto)⟩

theorem drawMiddlePieces_ok {A : Heap} {X : List Nat} {S : Sig} {H : Heap} {cv : AV} {bs : List Int} (hS : SOk A X S H.size H) (hh : Has S cv 1 bs.length (bytesL bs)) (hb : ∀ i, 0 ≤ nth bs i ∧ nth bs i ≤ 255) (hl : bs.length ≤ 1048576) :
    ACalls Try.prog fn_spec_DrawMiddlePieces [cv] H fun r H' => ∃ g : DG × Int, r = .tuple [g.1.u, .int .i64 g.2] ∧ SOk A X (.rwI g.1.u g.1.xs.length g.1.xs :: S) H'.size H' ∧ g.1.xs.length ≤ 21 ∧ Bd 1000 g.1.xs ∧ -1000 ≤ g.2 ∧ g.2 ≤ 1000 := by
  refine code_spec_DrawMiddlePieces.gon (R := [byt cv bs]) (V := fun g : DG × Int => .tuple [g.1.u, .int .i64 g.2]) (T := fun g => [.rwI g.1.u g.1.xs.length g.1.xs]) (Φ := fun g => g.1.xs.length ≤ 21 ∧ Bd 1000 g.1.xs ∧ -1000 ≤ g.2 ∧ g.2 ≤ 1000) hS ⟨⟨rfl, hS.valsA hh⟩, trivial⟩ (fun _ => rfl) (by simp) ?_
  unfold mc_spec_DrawMiddlePieces
  (repeat (first | refine gst (hk := ?_) | (show GO _ _ _ _ _ (⟨some _, none, .call _ _⟩ :: _) _; first | (refine go_callg rfl code_spec_newReader.callable (fun H hH => newReaderC_ok hH (c := ⟨.cell, .ptr _ 0, 4, 1, [_, _, _, _]⟩) Sel.head rfl (by exact Has.auto) (by assumption) (by omega)) ?_; intro g hg) | (refine go_callg rfl code_spec_newReader.callable (fun H hH => newReader_ok hH (by exact Has.auto) (by assumption) (by omega)) ?_; intro g hg) | (refine go_callg rfl code_spec_stepList.callable (fun H hH => stepList_ok hH (by exact Sel.auto) (by exact SubF.auto) (by assumption) (by omega)) ?_; intro g hg) | (refine go_callg rfl code_spec_reader_one.callable (fun H hH => one_ok hH (by exact Sel.auto) (by exact SubF.auto) (by rfl) (by assumption) (by omega) (by first | omega | decide) (by first | omega | decide)) ?_; intro g hg)) | (show GO _ _ _ _ _ (⟨some _, none, _⟩ :: _) _; first | refine go_op (hk := ?_) | (refine go_nw (hk := ?_); intro u; try simp only [llc, lln, lna, lza]) | (refine go_np (hk := ?_); intro id)) | (show GO _ _ _ _ _ (⟨none, none, _⟩ :: _) _; refine go_st (hk := ?_)) | (show GO _ _ _ _ _ (⟨_, some _, _⟩ :: _) _; first | refine go_in (hk := ?_) | refine go_out (hk := ?_) | refine go_void (hk := ?_)) | (show GK _ _ _ _ (blockK _ _ _); refine gk_past rfl ?_) | (show GC _ _ _ _ _ (.cond _ _ _) _; first | refine gc_yes (h1 := ?_) | refine gc_no (h1 := ?_))))
  rename_i r0 hr0 d hd
  obtain ⟨d1, d2, d3⟩ := hd
  simp only [List.mem_cons, List.not_mem_nil, or_false] at hg
  exact gk_ret rfl fun H' hH => ⟨⟨d, g⟩, rfl, ⟨d1, d2, by simp only; omega, by simp only; omega⟩, hH.sub (by exact Sub.auto)⟩

theorem validPieces_ok {H : Heap} {a : AV} {xs : List Int} {p : Int} (ha : Ints H a xs) (hl : xs.length ≤ 1000000000) :
    ACalls Try.prog fn_impl_validPieces [a, .int .i64 p] H fun r H' => r = .bool (decide (PsOk xs p)) ∧ H' = H := by
  refine ACalls.val ?_ rfl
  refine code_impl_validPieces.go [.roI a xs.length xs] ⟨⟨rfl, ha⟩, trivial⟩ (by simp) ?_
  unfold mc_impl_validPieces
  have no : (PsOk xs p → False) → decide (PsOk xs p) = false := fun h => decide_eq_false h
  (repeat (first | refine gst (hk := ?_) | (show GO _ _ _ _ _ (⟨some _, none, _⟩ :: _) _; first | refine go_op (hk := ?_) | (refine go_nw (hk := ?_); intro u; try simp only [llc, lln, lna, lza]) | (refine go_np (hk := ?_); intro id)) | (show GO _ _ _ _ _ (⟨none, none, _⟩ :: _) _; refine go_st (hk := ?_)) | (show GO _ _ _ _ _ (⟨_, some _, _⟩ :: _) _; first | refine go_in (hk := ?_) | refine go_out (hk := ?_) | refine go_void (hk := ?_)) | (show GK _ _ _ _ (blockK _ _ _); refine gk_past rfl ?_) | (show GC _ _ _ _ _ (.cond _ _ _) _; first | refine gc_yes (h1 := ?_) | refine gc_no (h1 := ?_))))
  refine go_callp rfl code_impl_validHeights.callable (fun H hH => validHeights_ok (hH.ints (by exact Has.auto)) hl) ?_
  (repeat (first | refine gst (hk := ?_) | (show GO _ _ _ _ _ (⟨some _, none, _⟩ :: _) _; first | refine go_op (hk := ?_) | (refine go_nw (hk := ?_); intro u; try simp only [llc, lln, lna, lza]) | (refine go_np (hk := ?_); intro id)) | (show GO _ _ _ _ _ (⟨none, none, _⟩ :: _) _; refine go_st (hk := ?_)) | (show GO _ _ _ _ _ (⟨_, some _, _⟩ :: _) _; first | refine go_in (hk := ?_) | refine go_out (hk := ?_) | refine go_void (hk := ?_)) | (show GK _ _ _ _ (blockK _ _ _); refine gk_past rfl ?_) | (show GC _ _ _ _ _ (.cond _ _ _) _; first | refine gc_yes (h1 := ?_) | refine gc_no (h1 := ?_))))
  refine go_split 7 rfl (fun h1 => ?_) (fun h1 => ?_)
  · (repeat (first | refine gst (hk := ?_) | (show GO _ _ _ _ _ (⟨some _, none, _⟩ :: _) _; first | refine go_op (hk := ?_) | (refine go_nw (hk := ?_); intro u; try simp only [llc, lln, lna, lza]) | (refine go_np (hk := ?_); intro id)) | (show GO _ _ _ _ _ (⟨none, none, _⟩ :: _) _; refine go_st (hk := ?_)) | (show GO _ _ _ _ _ (⟨_, some _, _⟩ :: _) _; first | refine go_in (hk := ?_) | refine go_out (hk := ?_) | refine go_void (hk := ?_)) | (show GK _ _ _ _ (blockK _ _ _); refine gk_past rfl ?_) | (show GC _ _ _ _ _ (.cond _ _ _) _; first | refine gc_yes (h1 := ?_) | refine gc_no (h1 := ?_))))
    refine go_split 11 rfl (fun h2 => ?_) (fun h2 => ?_)
    · (repeat (first | refine gst (hk := ?_) | (show GO _ _ _ _ _ (⟨some _, none, _⟩ :: _) _; first | refine go_op (hk := ?_) | (refine go_nw (hk := ?_); intro u; try simp only [llc, lln, lna, lza]) | (refine go_np (hk := ?_); intro id)) | (show GO _ _ _ _ _ (⟨none, none, _⟩ :: _) _; refine go_st (hk := ?_)) | (show GO _ _ _ _ _ (⟨_, some _, _⟩ :: _) _; first | refine go_in (hk := ?_) | refine go_out (hk := ?_) | refine go_void (hk := ?_)) | (show GK _ _ _ _ (blockK _ _ _); refine gk_past rfl ?_) | (show GC _ _ _ _ _ (.cond _ _ _) _; first | refine gc_yes (h1 := ?_) | refine gc_no (h1 := ?_))))
      exact gk_ret rfl fun H' hH => ⟨by
        simp only [tupleOf]; congr 1
        exact decide_eq_decide.2 ⟨fun h => ⟨h1, by omega⟩, fun h => by have := h.2; omega⟩, hH.leE⟩
    · (repeat (first | refine gst (hk := ?_) | (show GO _ _ _ _ _ (⟨some _, none, _⟩ :: _) _; first | refine go_op (hk := ?_) | (refine go_nw (hk := ?_); intro u; try simp only [llc, lln, lna, lza]) | (refine go_np (hk := ?_); intro id)) | (show GO _ _ _ _ _ (⟨none, none, _⟩ :: _) _; refine go_st (hk := ?_)) | (show GO _ _ _ _ _ (⟨_, some _, _⟩ :: _) _; first | refine go_in (hk := ?_) | refine go_out (hk := ?_) | refine go_void (hk := ?_)) | (show GK _ _ _ _ (blockK _ _ _); refine gk_past rfl ?_) | (show GC _ _ _ _ _ (.cond _ _ _) _; first | refine gc_yes (h1 := ?_) | refine gc_no (h1 := ?_))))
      exact gk_ret rfl fun H' hH => ⟨by rw [no fun h => by have := h.2; omega]; rfl, hH.leE⟩
  · (repeat (first | refine gst (hk := ?_) | (show GO _ _ _ _ _ (⟨some _, none, _⟩ :: _) _; first | refine go_op (hk := ?_) | (refine go_nw (hk := ?_); intro u; try simp only [llc, lln, lna, lza]) | (refine go_np (hk := ?_); intro id)) | (show GO _ _ _ _ _ (⟨none, none, _⟩ :: _) _; refine go_st (hk := ?_)) | (show GO _ _ _ _ _ (⟨_, some _, _⟩ :: _) _; first | refine go_in (hk := ?_) | refine go_out (hk := ?_) | refine go_void (hk := ?_)) | (show GK _ _ _ _ (blockK _ _ _); refine gk_past rfl ?_) | (show GC _ _ _ _ _ (.cond _ _ _) _; first | refine gc_yes (h1 := ?_) | refine gc_no (h1 := ?_))))
    exact gk_ret rfl fun H' hH => ⟨by rw [no fun h => h1 h.1]; rfl, hH.leE⟩

def MpO (ob : Nat → Option OB) (id : Nat) (es : List ME) (clk : Nat) : Prop := ∃ o, ob id = some o ∧ o.mo = some (.map es clk)

def ItO (ob : Nat → Option OB) (id m since : Nat) (seen : List Nat) (last : Nat) : Prop := ∃ o, ob id = some o ∧ o.mo = some (.iter m since seen last)

def seo (ob : Nat → Option OB) (id : Nat) (o : OB) : Nat → Option OB := fun i => if i = id then some o else ob i

theorem mp_same {ob : Nat → Option OB} {id : Nat} {es : List ME} {clk : Nat} : MpO (seo ob id (obM (.map es clk))) id es clk := ⟨obM (.map es clk), by simp [seo], rfl⟩

theorem it_same {ob : Nat → Option OB} {id m since last : Nat} {seen : List Nat} : ItO (seo ob id (obM (.iter m since seen last))) id m since seen last := ⟨obM (.iter m since seen last), by simp [seo], rfl⟩

theorem mp_other {ob : Nat → Option OB} {id j : Nat} {es : List ME} {clk : Nat} {o : OB} (h : MpO ob j es clk) (hn : j ≠ id) : MpO (seo ob id o) j es clk := by
  obtain ⟨x, h1, h2⟩ := h
  exact ⟨x, by simp only [seo]; rw [if_neg hn]; exact h1, h2⟩

theorem it_other {ob : Nat → Option OB} {id j m since last : Nat} {seen : List Nat} {o : OB} (h : ItO ob j m since seen last) (hn : j ≠ id) : ItO (seo ob id o) j m since seen last := by
  obtain ⟨x, h1, h2⟩ := h
  exact ⟨x, by simp only [seo]; rw [if_neg hn]; exact h1, h2⟩

theorem mp_fresh {ob : Nat → Option OB} {id j : Nat} {es : List ME} {clk : Nat} (h : MpO ob j es clk) (hn : ob id = none) : j ≠ id := by
  rintro rfl
  obtain ⟨x, h1, _⟩ := h
  rw [hn] at h1; cases h1

theorem mp_it {ob : Nat → Option OB} {id j m since last : Nat} {seen : List Nat} {es : List ME} {clk : Nat} (h : MpO ob j es clk) (h' : ItO ob id m since seen last) : j ≠ id := by
  rintro rfl
  obtain ⟨x, h1, h2⟩ := h
  obtain ⟨y, h3, h4⟩ := h'
  rw [h1] at h3; cases h3
  rw [h2] at h4; cases h4

theorem mp_eq {ob ob' : Nat → Option OB} {j : Nat} {es : List ME} {clk : Nat} (h : MpO ob j es clk) (he : ob' j = ob j) : MpO ob' j es clk := by
  obtain ⟨x, h1, h2⟩ := h
  exact ⟨x, by rw [he]; exact h1, h2⟩

/-- what was there is there, but for some -/
def ExO (ob0 ob : Nat → Option OB) (I : List Nat) : Prop := ∀ j o, j ∉ I → ob0 j = some o → ob j = some o

theorem ExO.refl (ob : Nat → Option OB) (I : List Nat) : ExO ob ob I := fun _ _ _ h => h

theorem ExO.new {ob0 ob : Nat → Option OB} {I : List Nat} (h : ExO ob0 ob I) {id : Nat} (hn : ob id = none) (o : OB) : ExO ob0 (seo ob id o) I := fun j p h1 h2 => by
  have h3 := h j p h1 h2
  have : j ≠ id := by rintro rfl; rw [hn] at h3; cases h3
  simp only [seo]; rw [if_neg this]; exact h3

theorem ExO.gone {ob0 ob : Nat → Option OB} {I : List Nat} (h : ExO ob0 ob I) {id : Nat} (hi : id ∉ I) (hn : ob id = none) : ob0 id = none := by
  cases h0 : ob0 id with
  | none => rfl
  | some o => rw [h id o hi h0] at hn; cases hn

theorem ExO.mod {ob0 ob : Nat → Option OB} {I : List Nat} (h : ExO ob0 ob I) {id : Nat} (hn : ob0 id = none ∨ id ∈ I) (o : OB) : ExO ob0 (seo ob id o) I := fun j p h1 h2 => by
  have : j ≠ id := by
    rintro rfl
    rcases hn with hn | hn
    · rw [hn] at h2; cases h2
    · exact h1 hn
  simp only [seo]; rw [if_neg this]; exact h j p h1 h2

/-- fewer objects may be told -/
theorem acalls_obs {P : Program} {f : FuncId} {args : List AV} {H : Heap} {R R' : AV → Heap → Prop} (h : ACalls P f args H R)
    (hw : ∀ r H', R r H' → ∃ ob, R' r ⟨H'.size, H'.get, ob⟩ ∧ ∀ i o, ob i = some o → H'.ob i = some o) : ACalls P f args H R' :=
  fun ι w us h1 h2 => (h ι w us h1 h2).mono fun e w' ⟨r, u, H', ι', a1, a2, a3, a4, a5⟩ => by
    obtain ⟨ob, b1, b2⟩ := hw r H' a2
    exact ⟨r, u, ⟨H'.size, H'.get, ob⟩, ι', a1, b1, a3, ⟨a4.fresh, a4.blk, a4.apart, fun id o h => a4.obs id o (b2 id o h), fun id o r id' o' r' g1 g2 => a4.oapart id o r id' o' r' (b2 _ _ g1) (b2 _ _ g2), a4.gl⟩,
      ⟨a5.le, a5.size, a5.wsize, a5.os, a5.tape, a5.output, a5.rows, a5.news, fun id o r g1 g2 => a5.newo id o r (b2 _ _ g1) g2⟩⟩

theorem sok_mapAt {A : Heap} {X : List Nat} {S : Sig} {m : Nat} {H : Heap} {ob : Nat → Option OB} {id : Nat} {es : List ME} {clk : Nat} (h : SOk (A.obs ob) X S m H) (hm : MpO ob id es clk) : H.mapAt (.map id) = some (id, es, clk) := by
  obtain ⟨o, h1, h2⟩ := hm
  have : H.ob = ob := h.le.ob
  simp only [Heap.mapAt, this, h1, h2]

theorem sok_iterAt {A : Heap} {X : List Nat} {S : Sig} {n : Nat} {H : Heap} {ob : Nat → Option OB} {id m since last : Nat} {seen : List Nat} (h : SOk (A.obs ob) X S n H) (hm : ItO ob id m since seen last) : H.iterAt (.ptr id 0) = some (id, m, since, seen, last) := by
  obtain ⟨o, h1, h2⟩ := hm
  have : H.ob = ob := h.le.ob
  simp only [Heap.iterAt, this, h1, h2]

theorem sok_seto {A : Heap} {X : List Nat} {S : Sig} {H : Heap} {ob : Nat → Option OB} (h : SOk (A.obs ob) X S H.size H) (id : Nat) (o : OB) : SOk (A.obs (seo ob id o)) X S (H.seto id (some o)).size (H.seto id (some o)) := by
  have hob : H.ob = ob := h.le.ob
  have := h.obs (seo ob id o) (Nat.le_refl _) (Nat.le_refl _)
  have e : H.seto id (some o) = ⟨H.size, H.get, seo ob id o⟩ := by unfold Heap.seto seo; rw [hob]
  rw [e]; exact this

theorem sok_newo {A : Heap} {X : List Nat} {S : Sig} {H : Heap} {ob : Nat → Option OB} (h : SOk (A.obs ob) X S H.size H) (o : OB) : SOk (A.obs (seo ob H.size o)) X S (H.newo o).size (H.newo o) := by
  have hob : H.ob = ob := h.le.ob
  have := h.obs (seo ob H.size o) (Nat.le_succ _) (Nat.le_refl _)
  have e : H.newo o = ⟨H.size + 1, H.get, seo ob H.size o⟩ := by unfold Heap.newo seo; rw [hob]
  rw [e]; exact this

theorem go_mk {P : Program} {A : Heap} {X : List Nat} {E : List (Nat × AV)} {S : Sig} {r : List MI} {K : St → Prop} {ob : Nat → Option OB} {d : Nat} (hk : ∀ id, ob id = none → GO P (A.obs (seo ob id (obM (.map [] 0)))) X ((d, .map id) :: E) S r K) : GO P (A.obs ob) X E S (⟨some d, none, .mq .mk⟩ :: r) K := by
  refine ⟨fun s hf => ?_⟩
  rw [mops_cons]
  simp only [mone, mexec, mmq]
  intro h1 h2
  rw [show s.H.ob = ob from hf.ok.le.ob] at h2
  exact (hk s.H.size h2).g _ ⟨look_cons hf.env d _, sok_newo hf.ok _⟩

theorem go_rg {P : Program} {A : Heap} {X : List Nat} {E : List (Nat × AV)} {S : Sig} {r : List MI} {K : St → Prop} {ob : Nat → Option OB} {d m : Nat} {x : MX} {es : List ME} {clk : Nat} (hx : evE E x = some (.map m)) (hm : MpO ob m es clk)
    (hk : ∀ id, ob id = none → GO P (A.obs (seo ob id (obM (.iter m clk [] clk)))) X ((d, .ptr id 0) :: E) S r K) : GO P (A.obs ob) X E S (⟨some d, none, .mq (.rg x)⟩ :: r) K := by
  refine ⟨fun s hf => ?_⟩
  rw [mops_cons]
  simp only [mone, mexec, mmq, ev_of hf.env hx, sok_mapAt hf.ok hm]
  intro h1 h2
  rw [show s.H.ob = ob from hf.ok.le.ob] at h2
  exact (hk s.H.size h2).g _ ⟨look_cons hf.env d _, sok_newo hf.ok _⟩

theorem go_nx {P : Program} {A : Heap} {X : List Nat} {E : List (Nat × AV)} {S : Sig} {r : List MI} {K : St → Prop} {ob : Nat → Option OB} {d id m since last : Nat} {seen : List Nat} {x : MX} {es : List ME} {clk : Nat} (hx : evE E x = some (.ptr id 0)) (hi : ItO ob id m since seen last) (hm : MpO ob m es clk)
    (h1 : ∀ e ∈ es, e.born < since) (h2 : since ≤ last) (h3 : (∀ e ∈ es, e.born ∈ seen) → GO P (A.obs ob) X ((d, .tuple [.bool false]) :: E) S r K)
    (h4 : ∀ e ∈ es, e.born ∉ seen → GO P (A.obs (seo ob id (obM (.iter m since (seen ++ [e.born]) clk)))) X ((d, .tuple [.bool true, e.key, e.val]) :: E) S r K) : GO P (A.obs ob) X E S (⟨some d, none, .mq (.nx x)⟩ :: r) K := by
  refine ⟨fun s hf => ?_⟩
  rw [mops_cons]
  simp only [mone, mexec, mmq, ev_of hf.env hx, sok_iterAt hf.ok hi, sok_mapAt hf.ok hm]
  exact ⟨h1, h2, fun g => (h3 g).g _ ⟨look_cons hf.env d _, hf.ok⟩, fun e he hn => (h4 e he hn).g _ ⟨look_cons hf.env d _, sok_seto hf.ok _ _⟩⟩

theorem go_en {P : Program} {A : Heap} {X : List Nat} {E : List (Nat × AV)} {S : Sig} {r : List MI} {K : St → Prop} {ob : Nat → Option OB} {d id m since last : Nat} {seen : List Nat} {x : MX} {es : List ME} {e : ME} (hx : evE E x = some (.ptr id 0)) (hi : ItO ob id m since (seen ++ [e.born]) last) (hm : MpO ob m es last)
    (he : e ∈ es) (hn : (es.map (·.born)).Nodup) (hk : GO P (A.obs ob) X ((d, .tuple [e.key, e.val]) :: E) S r K) : GO P (A.obs ob) X E S (⟨some d, none, .mq (.en x)⟩ :: r) K := by
  refine ⟨fun s hf => ?_⟩
  rw [mops_cons]
  have key : ∀ l : List ME, e ∈ l → (l.map (·.born)).Nodup → l.find? (fun q => q.born == e.born) = some e := by
    intro l
    induction l with
    | nil => intro h; simp at h
    | cons q l ih =>
      intro hm hn
      rw [List.map_cons, List.nodup_cons] at hn
      rw [List.find?_cons]
      rcases List.mem_cons.1 hm with rfl | hm
      · simp
      · have : ¬ q.born = e.born := fun h => hn.1 (by rw [h]; exact List.mem_map.2 ⟨e, hm, rfl⟩)
        have h2 : (q.born == e.born) = false := by simpa using this
        rw [h2]; exact ih hm hn.2
  simp only [mone, mexec, mmq, ev_of hf.env hx, sok_iterAt hf.ok hi, sok_mapAt hf.ok hm, List.getLast?_append, List.getLast?_singleton, Option.some_or, key es he hn]
  exact ⟨trivial, hk.g _ ⟨look_cons hf.env d _, hf.ok⟩⟩

theorem go_lk {P : Program} {A : Heap} {X : List Nat} {E : List (Nat × AV)} {S : Sig} {r : List MI} {K : St → Prop} {ob : Nat → Option OB} {d m : Nat} {x i : MX} {st : Bool} {z k v : AV} {j : Nat} {es : List ME} {clk : Nat} (hx : evE E x = some (.map m)) (hi : evE E i = some k) (hm : MpO ob m es clk)
    (hf : findA st k es 0 = some (some (j, v))) (hk : GO P (A.obs ob) X ((d, v) :: E) S r K) : GO P (A.obs ob) X E S (⟨some d, none, .mq (.lk x i false st z)⟩ :: r) K := by
  refine ⟨fun s hs => ?_⟩
  rw [mops_cons]
  simp only [mone, mexec, mmq, ev_of hs.env hx, ev_of hs.env hi, sok_mapAt hs.ok hm, hf, Bool.false_eq_true, if_false]
  exact hk.g _ ⟨look_cons hs.env d _, hs.ok⟩

/-- a new entry -/
theorem go_up {P : Program} {A : Heap} {X : List Nat} {E : List (Nat × AV)} {S : Sig} {r : List MI} {K : St → Prop} {ob : Nat → Option OB} {m : Nat} {x i y : MX} {st : Bool} {k v : AV} {es : List ME} {clk : Nat} (hx : evE E x = some (.map m)) (hi : evE E i = some k) (hy : evE E y = some v) (hm : MpO ob m es clk)
    (hf : findA st k es 0 = some none) (hk : GO P (A.obs (seo ob m (obM (.map (es ++ [⟨k, v, clk⟩]) (clk + 1))))) X E S r K) : GO P (A.obs ob) X E S (⟨none, none, .mq (.up x i y st)⟩ :: r) K := by
  refine ⟨fun s hs => ?_⟩
  rw [mops_cons]
  simp only [mone, mexec, mmq, ev_of hs.env hx, ev_of hs.env hi, ev_of hs.env hy, sok_mapAt hs.ok hm, hf]
  exact hk.g _ ⟨hs.env, sok_seto hs.ok _ _⟩

theorem go_dl {P : Program} {A : Heap} {X : List Nat} {E : List (Nat × AV)} {S : Sig} {r : List MI} {K : St → Prop} {ob : Nat → Option OB} {m : Nat} {x i : MX} {st : Bool} {k v : AV} {j : Nat} {es : List ME} {clk : Nat} (hx : evE E x = some (.map m)) (hi : evE E i = some k) (hm : MpO ob m es clk)
    (hf : findA st k es 0 = some (some (j, v))) (hk : GO P (A.obs (seo ob m (obM (.map (es.eraseIdx j) clk)))) X E S r K) : GO P (A.obs ob) X E S (⟨none, none, .mq (.dl x i st)⟩ :: r) K := by
  refine ⟨fun s hs => ?_⟩
  rw [mops_cons]
  simp only [mone, mexec, mmq, ev_of hs.env hx, ev_of hs.env hi, sok_mapAt hs.ok hm, hf]
  exact hk.g _ ⟨hs.env, sok_seto hs.ok _ _⟩

/-- a call that changes objects -/
theorem go_callA {P : Program} {A : Heap} {X : List Nat} {E : List (Nat × AV)} {S : Sig} {r : List MI} {K : St → Prop} {ob : Nat → Option OB} {d : Nat} {f : FuncId} {args : List MX} {vs : List AV} {γ : Type} {O : γ → Nat → Option OB} {V : γ → AV} {T : γ → Sig} {Φ : γ → Prop} (ha : evsE E args = some vs) (hc : Callable P f)
    (h : ∀ H, SOk (A.obs ob) X S H.size H → ACalls P f vs H fun r H' => ∃ g, r = V g ∧ SOk (A.obs (O g)) X (T g) H'.size H' ∧ Φ g) (hk : ∀ g, Φ g → GO P (A.obs (O g)) X ((d, V g) :: E) (T g) r K) : GO P (A.obs ob) X E S (⟨some d, none, .call f args⟩ :: r) K := by
  refine ⟨fun s hf => ?_⟩
  rw [mops_cons]
  have := h s.H hf.ok
  rw [← evs_of hf.env ha] at this
  refine ⟨hc, _, this, ?_⟩
  rintro v' H' ⟨g, rfl, ho, hg⟩
  exact (hk g hg).g _ ⟨look_cons hf.env d _, ho⟩

/-- a loop that changes objects -/
theorem gc_loopA {P : Program} {A : Heap} {X : List Nat} {E : List (Nat × AV)} {S : Sig} {Q : Exit → St → Prop} {γ : Type} (O : γ → Nat → Option OB) (EI : γ → List (Nat × AV)) (SI : γ → Sig) (Φ : γ → Prop) (μ : γ → Nat) (g0 : γ) {c : MC} (h0 : Φ g0)
    (hE : Cov E (EI g0)) (hS : Sub S (SI g0))
    (hb : ∀ g, Φ g → ∀ (I : St → Prop) (ν : St → Nat) (m : Nat), (∀ g', Φ g' → μ g' < μ g → GK (A.obs (O g')) X (EI g') (SI g') (loopK I ν m Q .normal)) → GC P (A.obs (O g)) X (EI g) (SI g) c (loopK I ν m Q)) : GC P (A.obs (O g0)) X E S (.loop c) Q := by
  refine ⟨fun s hf => ?_⟩
  rw [mwp_loop]
  refine mloop_down (fun j s => ∃ g, Φ g ∧ μ g = j ∧ Fit (A.obs (O g)) X (EI g) (SI g) s) (μ g0) ⟨g0, h0, rfl, hf.cov hE hS⟩ ?_
  rintro j s' ⟨g, h1, h2, h3⟩ I ν m hn
  refine (hb g h1 I ν m (fun g' k1 k2 => ⟨fun s'' hf'' => ?_⟩)).g s' h3
  exact hn (μ g') s'' (by omega) ⟨g', k1, rfl, hf''⟩

/-- the same state, by its objects -/
theorem sok_leO {A : Heap} {X : List Nat} {S : Sig} {H H' : Heap} {ob ob' : Nat → Option OB} (h : SOk (A.obs ob) X S H.size H) (h1 : H.size ≤ H'.size) (h2 : ∀ id, id < H.size → H'.get id = H.get id) (h3 : H'.ob = ob') : SOk (A.obs ob') X S H'.size H' := by
  have h4 := h.obs ob' (Nat.le_refl _) (Nat.le_refl _)
  have := h4.same (H' := H') (m' := H'.size) h2 h1 (Nat.le_refl _) h3
  exact this

structure CE where
  p : Nat
  v : Rat
  b : Nat

def ceM (e : CE) : ME := ⟨.int .i64 (e.p : Int), frV e.v, e.b⟩

def CutsOk (L : List CE) (clk : Nat) : Prop := (L.map CE.b).Nodup ∧ (∀ e ∈ L, e.b < clk) ∧ (L.map CE.p).Nodup

def loseB (p : Nat) (v : Rat) (e : CE) : Bool := decide (p ≤ e.p) && decide (v ≤ e.v)

theorem loseB_iff {p : Nat} {v : Rat} {e : CE} : loseB p v e = true ↔ p ≤ e.p ∧ v ≤ e.v := by unfold loseB; rw [Bool.and_eq_true, decide_eq_true_eq, decide_eq_true_eq]

theorem map_inj {α β : Type} {f : α → β} : ∀ {L : List α}, (L.map f).Nodup → ∀ {x y : α}, x ∈ L → y ∈ L → f x = f y → x = y
  | [], _, x, _, h, _, _ => by simp at h
  | a :: L, hn, x, y, hx, hy, he => by
    rw [List.map_cons, List.nodup_cons] at hn
    rcases List.mem_cons.1 hx with h1 | h1 <;> rcases List.mem_cons.1 hy with h2 | h2
    · rw [h1, h2]
    · subst h1; exact absurd (List.mem_map.2 ⟨y, h2, he.symm⟩) hn.1
    · subst h2; exact absurd (List.mem_map.2 ⟨x, h1, he⟩) hn.1
    · exact map_inj hn.2 h1 h2 he

/-- those that lose and have come are out -/
def flC (L : List CE) (p : Nat) (v : Rat) (seen : List Nat) : List CE := L.filter fun e => !(seen.contains e.b && loseB p v e)

theorem flC_nil (L : List CE) (p : Nat) (v : Rat) : flC L p v [] = L := by
  unfold flC; rw [List.filter_eq_self]; intro e _; simp

theorem flC_mem {L : List CE} {p : Nat} {v : Rat} {seen : List Nat} {e : CE} : e ∈ flC L p v seen ↔ e ∈ L ∧ ¬ (e.b ∈ seen ∧ loseB p v e = true) := by
  unfold flC; rw [List.mem_filter]; simp only [Bool.not_eq_true', Bool.and_eq_false_imp, List.contains_iff_mem]
  constructor
  · rintro ⟨h1, h2⟩; exact ⟨h1, fun h => by rw [h2 h.1] at h; exact absurd h.2 (by simp)⟩
  · rintro ⟨h1, h2⟩; refine ⟨h1, fun h => ?_⟩
    cases hb : loseB p v e with
    | false => rfl
    | true => exact absurd ⟨h, hb⟩ h2

theorem flC_sub (L : List CE) (p : Nat) (v : Rat) (seen : List Nat) : (flC L p v seen).Sublist L := List.filter_sublist

theorem CutsOk.sub {L M : List CE} {clk : Nat} (h : CutsOk L clk) (hs : M.Sublist L) : CutsOk M clk := ⟨(hs.map _).nodup h.1, fun e he => h.2.1 e (hs.subset he), (hs.map _).nodup h.2.2⟩

theorem flC_keep {L : List CE} {clk p : Nat} {v : Rat} {seen : List Nat} (hL : CutsOk L clk) {e : CE} (he : e ∈ L) (hl : loseB p v e = false) : flC L p v (seen ++ [e.b]) = flC L p v seen := by
  unfold flC
  apply List.filter_congr
  intro x hx
  by_cases hxe : x.b = e.b
  · obtain rfl := map_inj hL.1 hx he hxe
    simp [hl]
  · have : (seen ++ [e.b]).contains x.b = seen.contains x.b := by
      rw [Bool.eq_iff_iff, List.contains_iff_mem, List.contains_iff_mem, List.mem_append, List.mem_singleton]
      exact ⟨fun h => h.resolve_right hxe, .inl⟩
    rw [this]

theorem erase_filter : ∀ {L : List CE} {j : Nat} {e : CE}, (L.map CE.b).Nodup → L[j]? = some e → L.eraseIdx j = L.filter fun x => decide (x.b ≠ e.b)
  | [], j, e, _, h => by simp at h
  | a :: L, 0, e, hn, h => by
    rw [List.map_cons, List.nodup_cons] at hn
    simp only [List.getElem?_cons_zero, Option.some.injEq] at h; subst h
    rw [List.eraseIdx_cons_zero, List.filter_cons]
    simp only [ne_eq, not_true_eq_false, decide_false, Bool.false_eq_true, if_false]
    symm
    rw [List.filter_eq_self]
    intro x hx
    rw [decide_eq_true_eq]
    exact fun h => hn.1 (List.mem_map.2 ⟨x, hx, h⟩)
  | a :: L, j + 1, e, hn, h => by
    rw [List.map_cons, List.nodup_cons] at hn
    rw [List.getElem?_cons_succ] at h
    have hm : e ∈ L := List.mem_of_getElem? h
    have : a.b ≠ e.b := fun h => hn.1 (List.mem_map.2 ⟨e, hm, h.symm⟩)
    rw [List.eraseIdx_cons_succ, List.filter_cons, erase_filter hn.2 h]
    simp only [this, ne_eq, not_false_eq_true, decide_true, if_true]

theorem flC_erase {L : List CE} {clk p : Nat} {v : Rat} {seen : List Nat} (hL : CutsOk L clk) {e : CE} {j : Nat} (he : (flC L p v seen)[j]? = some e) (hl : loseB p v e = true) : (flC L p v seen).eraseIdx j = flC L p v (seen ++ [e.b]) := by
  rw [erase_filter (hL.sub (flC_sub _ _ _ _)).1 he]
  have hm := (flC_sub L p v seen).subset (List.mem_of_getElem? he)
  unfold flC
  rw [List.filter_filter]
  apply List.filter_congr
  intro x hx
  by_cases hxe : x.b = e.b
  · obtain rfl := map_inj hL.1 hx hm hxe
    simp [hl]
  · have : (seen ++ [e.b]).contains x.b = seen.contains x.b := by
      rw [Bool.eq_iff_iff, List.contains_iff_mem, List.contains_iff_mem, List.mem_append, List.mem_singleton]
      exact ⟨fun h => h.resolve_right hxe, .inl⟩
    rw [this]
    simp [hxe]

theorem flC_end {L : List CE} {p : Nat} {v : Rat} {seen : List Nat} (h : ∀ e ∈ flC L p v seen, e.b ∈ seen) : flC L p v seen = L.filter fun e => !loseB p v e := by
  unfold flC
  apply List.filter_congr
  intro x hx
  cases hl : loseB p v x with
  | false => simp
  | true =>
    by_cases hs : x.b ∈ seen
    · simp [hs]
    · exact absurd (h x (flC_mem.2 ⟨hx, fun h => hs h.1⟩)) hs

theorem findA_at : ∀ {L : List CE} {j : Nat} {e : CE} (i : Nat), (L.map CE.p).Nodup → L[j]? = some e → findA false (.int .i64 (e.p : Int)) (L.map ceM) i = some (some (i + j, frV e.v))
  | [], j, e, _, _, h => by simp at h
  | a :: L, 0, e, i, hn, h => by
    simp only [List.getElem?_cons_zero, Option.some.injEq] at h; subst h
    simp [findA, ceM, sameA]
  | a :: L, j + 1, e, i, hn, h => by
    rw [List.map_cons, List.nodup_cons] at hn
    rw [List.getElem?_cons_succ] at h
    have hm : e ∈ L := List.mem_of_getElem? h
    have hne : a.p ≠ e.p := fun h => hn.1 (List.mem_map.2 ⟨e, hm, h.symm⟩)
    have : (((e.p : Nat) : Int) == ((a.p : Nat) : Int)) = false := by rw [beq_eq_false_iff_ne]; omega
    simp only [List.map_cons, findA, ceM, sameA, and_self, if_true, this]
    rw [show i + (j + 1) = i + 1 + j by omega]
    exact findA_at (i + 1) hn.2 h

theorem findA_no : ∀ {L : List CE} {p : Nat} (i : Nat), (∀ e ∈ L, e.p ≠ p) → findA false (.int .i64 (p : Int)) (L.map ceM) i = some none
  | [], p, _, _ => rfl
  | a :: L, p, i, h => by
    have hne := h a (by simp)
    have : (((p : Nat) : Int) == ((a.p : Nat) : Int)) = false := by rw [beq_eq_false_iff_ne]; omega
    simp only [List.map_cons, findA, ceM, sameA, and_self, if_true, this]
    exact findA_no (i + 1) fun e he => h e (by simp [he])

/-- the stamps that have come -/
def GoneC (L : List CE) (seen : List Nat) : Prop := seen.Nodup ∧ ∀ b ∈ seen, b ∈ L.map CE.b

theorem GoneC.nil (L : List CE) : GoneC L [] := ⟨List.nodup_nil, by simp⟩

theorem GoneC.le {L : List CE} {seen : List Nat} (h : GoneC L seen) : seen.length ≤ L.length := by
  have := h.1.length_le_of_subset (fun b hb => h.2 b hb : seen ⊆ L.map CE.b)
  rwa [List.length_map] at this

theorem GoneC.snoc {L : List CE} {seen : List Nat} (h : GoneC L seen) {e : CE} (he : e ∈ L) (hn : e.b ∉ seen) : GoneC L (seen ++ [e.b]) := by
  refine ⟨?_, fun b hb => ?_⟩
  · rw [List.nodup_append]
    exact ⟨h.1, by simp, fun a ha b hb => by simp only [List.mem_singleton] at hb; subst hb; exact fun h => hn (h ▸ ha)⟩
  · rcases List.mem_append.1 hb with hb | hb
    · exact h.2 b hb
    · simp only [List.mem_singleton] at hb; subst hb; exact List.mem_map.2 ⟨e, he, rfl⟩

theorem GoneC.lt {L : List CE} {seen : List Nat} (h : GoneC L seen) {e : CE} (he : e ∈ L) (hn : e.b ∉ seen) : L.length - (seen ++ [e.b]).length < L.length - seen.length := by
  have := (h.snoc he hn).le
  rw [List.length_append, List.length_singleton] at this ⊢
  omega

/-- what is kept when a way is offered -/
def KpC (L : List CE) (p : Nat) (v : Rat) (L' : List CE) : Prop := ((∃ e ∈ L, e.p ≤ p ∧ e.v ≤ v) ∧ L' = L) ∨ ((∀ e ∈ L, ¬ (e.p ≤ p ∧ e.v ≤ v)) ∧ ∃ b, L' = (L.filter fun e => !loseB p v e) ++ [⟨p, v, b⟩])

/-- the ways that are not beaten, of some -/
def FrontC (L : List CE) (S : Nat → Rat → Prop) : Prop := (∀ e ∈ L, S e.p e.v) ∧ (∀ p v, S p v → ∃ e ∈ L, e.p ≤ p ∧ e.v ≤ v) ∧ ∀ e ∈ L, ∀ e' ∈ L, e.p < e'.p → e'.v < e.v

theorem FrontC.keep {L L' : List CE} {S : Nat → Rat → Prop} {p : Nat} {v : Rat} (h : FrontC L S) (hk : KpC L p v L') : FrontC L' (fun q w => S q w ∨ (q = p ∧ w = v)) := by
  obtain ⟨h1, h2, h3⟩ := h
  rcases hk with ⟨⟨e, k1, k2⟩, rfl⟩ | ⟨k, b, rfl⟩
  · refine ⟨fun e he => .inl (h1 e he), fun q w hq => ?_, h3⟩
    rcases hq with hq | ⟨rfl, rfl⟩
    · exact h2 q w hq
    · exact ⟨e, k1, k2⟩
  · have hin : ∀ {e : CE}, e ∈ (L.filter fun e => !loseB p v e) ++ [⟨p, v, b⟩] → (e ∈ L ∧ ¬ (p ≤ e.p ∧ v ≤ e.v)) ∨ e = ⟨p, v, b⟩ := fun {e} he => by
      rcases List.mem_append.1 he with he | he
      · obtain ⟨g1, g2⟩ := List.mem_filter.1 he
        exact .inl ⟨g1, fun g => by rw [loseB_iff.2 g] at g2; cases g2⟩
      · exact .inr (List.mem_singleton.1 he)
    refine ⟨fun e he => ?_, fun q w hq => ?_, fun e he e' he' hlt => ?_⟩
    · rcases hin he with ⟨g, _⟩ | rfl
      · exact .inl (h1 e g)
      · exact .inr ⟨rfl, rfl⟩
    · rcases hq with hq | ⟨rfl, rfl⟩
      · obtain ⟨e, g1, g2, g3⟩ := h2 q w hq
        by_cases hl : p ≤ e.p ∧ v ≤ e.v
        · exact ⟨⟨p, v, b⟩, by simp, Nat.le_trans hl.1 g2, Rat.le_trans hl.2 g3⟩
        · refine ⟨e, List.mem_append_left _ (List.mem_filter.2 ⟨g1, ?_⟩), g2, g3⟩
          cases hb : loseB p v e with
          | false => rfl
          | true => exact absurd (loseB_iff.1 hb) hl
      · exact ⟨⟨q, w, b⟩, by simp, Nat.le_refl _, Rat.le_refl⟩
    · rcases hin he with ⟨g, g0⟩ | rfl <;> rcases hin he' with ⟨g', g0'⟩ | rfl
      · exact h3 e g e' g' hlt
      · have := k e g
        simp only at hlt ⊢
        exact Rat.not_le.1 fun hc => this ⟨by omega, hc⟩
      · simp only at hlt ⊢
        exact Rat.not_le.1 fun hc => g0' ⟨by omega, hc⟩
      · simp only at hlt; omega

theorem CutsOk.keep {L : List CE} {clk p : Nat} {v : Rat} (hL : CutsOk L clk) (hn : ∀ e ∈ L, ¬ (e.p ≤ p ∧ e.v ≤ v)) : CutsOk ((L.filter fun e => !loseB p v e) ++ [⟨p, v, clk⟩]) (clk + 1) ∧ ∀ e ∈ L.filter fun e => !loseB p v e, e.p ≠ p := by
  have hs : (L.filter fun e => !loseB p v e).Sublist L := List.filter_sublist
  have h0 := hL.sub hs
  have key : ∀ e ∈ L.filter fun e => !loseB p v e, e.p ≠ p := fun e he hp => by
    obtain ⟨g1, g2⟩ := List.mem_filter.1 he
    have h1 : ¬ e.v ≤ v := fun g => hn e g1 ⟨by omega, g⟩
    have h2 : loseB p v e = true := loseB_iff.2 ⟨by omega, Rat.le_of_lt (Rat.not_le.1 h1)⟩
    rw [h2] at g2; cases g2
  refine ⟨⟨?_, fun e he => ?_, ?_⟩, key⟩
  · rw [List.map_append, List.nodup_append]
    refine ⟨h0.1, by simp, fun a ha b hb => ?_⟩
    obtain ⟨e, g1, rfl⟩ := List.mem_map.1 ha
    simp only [List.map_cons, List.map_nil, List.mem_singleton] at hb; subst hb
    have := h0.2.1 e g1
    omega
  · rcases List.mem_append.1 he with he | he
    · have := h0.2.1 e he; omega
    · rw [List.mem_singleton] at he; subst he; simp
  · rw [List.map_append, List.nodup_append]
    refine ⟨h0.2.2, by simp, fun a ha b hb => ?_⟩
    obtain ⟨e, g1, rfl⟩ := List.mem_map.1 ha
    simp only [List.map_cons, List.map_nil, List.mem_singleton] at hb; subst hb
    exact key e g1

theorem go_nxC {P : Program} {A : Heap} {X : List Nat} {E : List (Nat × AV)} {S : Sig} {r : List MI} {K : St → Prop} {ob : Nat → Option OB} {d it m last clk : Nat} {seen : List Nat} {x : MX} {L : List CE} (hx : evE E x = some (.ptr it 0)) (hi : ItO ob it m clk seen last) (hm : MpO ob m (L.map ceM) clk) (hL : CutsOk L clk)
    (h2 : clk ≤ last) (h3 : (∀ e ∈ L, e.b ∈ seen) → GO P (A.obs ob) X ((d, .tuple [.bool false]) :: E) S r K)
    (h4 : ∀ e ∈ L, e.b ∉ seen → GO P (A.obs (seo ob it (obM (.iter m clk (seen ++ [e.b]) clk)))) X ((d, .tuple [.bool true, .int .i64 (e.p : Int), frV e.v]) :: E) S r K) : GO P (A.obs ob) X E S (⟨some d, none, .mq (.nx x)⟩ :: r) K := by
  refine go_nx hx hi hm (fun e he => ?_) h2 (fun hend => h3 fun e he => hend (ceM e) (List.mem_map.2 ⟨e, he, rfl⟩)) (fun e he hn => ?_)
  · obtain ⟨y, hy, rfl⟩ := List.mem_map.1 he
    exact hL.2.1 y hy
  · obtain ⟨y, hy, rfl⟩ := List.mem_map.1 he
    exact h4 y hy hn

theorem go_enC {P : Program} {A : Heap} {X : List Nat} {E : List (Nat × AV)} {S : Sig} {r : List MI} {K : St → Prop} {ob : Nat → Option OB} {d it m since clk : Nat} {seen : List Nat} {x : MX} {L : List CE} {e : CE} (hx : evE E x = some (.ptr it 0)) (hi : ItO ob it m since (seen ++ [e.b]) clk) (hm : MpO ob m (L.map ceM) clk) (hL : CutsOk L clk)
    (he : e ∈ L) (hk : GO P (A.obs ob) X ((d, .tuple [.int .i64 (e.p : Int), frV e.v]) :: E) S r K) : GO P (A.obs ob) X E S (⟨some d, none, .mq (.en x)⟩ :: r) K := by
  refine go_en (e := ceM e) hx hi hm (List.mem_map.2 ⟨e, he, rfl⟩) ?_ hk
  rw [List.map_map]
  exact hL.1

theorem cmR_le {p q : Rat} : cmR p q ≤ 0 ↔ p ≤ q := by
  rw [← Rat.not_lt, ← cmR_pos]; omega

theorem cmR_ge {p q : Rat} : 0 ≤ cmR p q ↔ q ≤ p := by
  rw [← Rat.not_lt, ← cmR_neg]; omega

theorem erase_map {α β : Type} {f : α → β} : ∀ {L : List α} {j : Nat}, (L.map f).eraseIdx j = (L.eraseIdx j).map f
  | [], _ => rfl
  | a :: L, 0 => rfl
  | a :: L, j + 1 => by rw [List.map_cons, List.eraseIdx_cons_succ, List.eraseIdx_cons_succ, List.map_cons, erase_map]

end Go.Rx.Try
