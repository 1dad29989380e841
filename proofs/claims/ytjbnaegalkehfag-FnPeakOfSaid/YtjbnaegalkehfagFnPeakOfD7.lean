import Derived.Test.YtjbnaegalkehfagFnPeakOfD6
namespace Go.Rx.Try
open Go.Proofs
set_option maxRecDepth 100000
set_option maxHeartbeats 8000000
set_option linter.unusedSimpArgs false
set_option linter.unusedVariables false

theorem stk_len : ∀ {st : List BK} {e : Nat}, stkOk st e → st.length ≤ e
  | [], e, _ => Nat.zero_le _
  | b :: r, e, h => by
    obtain ⟨_, h2, _, h4⟩ := h
    have := stk_len h4
    rw [List.length_cons]; omega

theorem go_frz {P : Program} {A : Heap} {X : List Nat} {E : List (Nat × AV)} {S S0 : Sig} {K : St → Prop} {l : List MI} {k : Kd} {v : AV} {es n : Nat} {cs : List AV} (hk : k = .rw ∨ k = .ro) (hs : Sel S ⟨k, v, es, n, cs⟩ S0) (h : GO P A X E (⟨.ro, v, es, n, cs⟩ :: S0) l K) : GO P A X E S l K := by
  rcases hk with rfl | rfl
  · exact go_freeze hs h
  · exact go_sub (.cons hs (sub_refl _)) h

theorem slice_of {H : Heap} {v : AV} {es n : Nat} {cs : List AV} (h : Vals H v es n cs) (hn : 0 < n) : ∃ id off cap, v = .slice id off n cap es := by
  have h1 := h.sl
  have h2 := h.len
  have h3 := h.esz hn
  cases v <;> simp [AV.isSlice] at h1
  · simp only [AV.len] at h2; subst h2
    simp only [AV.es, Option.some.injEq] at h3; subst h3
    exact ⟨_, _, _, rfl⟩
  · simp only [AV.len] at h2; omega

theorem perm_rw {α : Type} (U q W C : α) (R Q S : List α) : ((U :: (R ++ ((Q ++ [q]) ++ S))) ++ [W, C]).Perm (q :: U :: W :: C :: (R ++ (Q ++ S))) := by
  have h1 : (R ++ ((Q ++ [q]) ++ S)).Perm (q :: (R ++ (Q ++ S))) := by
    rw [List.append_assoc Q, ← List.append_assoc R]
    exact (List.perm_middle (l₁ := R ++ Q) (l₂ := S) (a := q)).trans (by rw [List.append_assoc])
  have h2 : ((U :: (q :: (R ++ (Q ++ S)))) ++ [W, C]).Perm ([W, C] ++ (U :: (q :: (R ++ (Q ++ S))))) := List.perm_append_comm
  refine ((h1.cons U).append_right _).trans (h2.trans ?_)
  exact (List.perm_append_comm_assoc [W, C] [U, q] (R ++ (Q ++ S))).trans (List.Perm.swap _ _ _)

theorem risingBlocks_ok {A : Heap} {X : List Nat} {S : Sig} {H : Heap} {a : AV} {xs ws : List Int} (hS : SOk A X S H.size H) (hm : (⟨.ro, a, 2, xs.length, pns (ptL xs ws)⟩ : Ch) ∈ S) (hL : (xs = [] ∧ ws = []) ∨ Loads xs ws) :
    ACalls Try.prog fn_impl_risingBlocks [a] H fun r H' => ∃ g : AV × List (AV × Nat × Nat), r = g.1 ∧ SOk A X ((rwO g.1 g.2 :: rwS xs ws g.2) ++ S) H'.size H' ∧ g.2.map (·.2) = bkL (poS (rS xs ws) (rW ws) xs.length) xs.length := by
  have hn : xs.length ≤ 8 := by
    rcases hL with ⟨rfl, _⟩ | h
    · simp
    · exact h.2.2.2.2
  have hp : 0 < xs.length → Loads xs ws := fun h0 => by
    rcases hL with ⟨rfl, _⟩ | h
    · simp at h0
    · exact h
  have hmem : ∀ T : Sig, (⟨.ro, a, 2, xs.length, pns (ptL xs ws)⟩ : Ch) ∈ T ++ S := fun T => List.mem_append_right _ hm
  have hhas : ∀ T : Sig, Has (T ++ S) a 2 xs.length (pns (ptL xs ws)) := fun T => has_memk (c := ⟨.ro, a, 2, xs.length, pns (ptL xs ws)⟩) (hmem T) (.inr rfl)
  have hh0 : Has S a 2 xs.length (pns (ptL xs ws)) := hhas []
  refine hc_goS code_impl_risingBlocks hS (by simp) ?_
  unfold mc_impl_risingBlocks
  -- alt: refine go_is rfl (stp_peqN rfl rfl) ?_
  (repeat (first | refine gst (hk := ?_) | (refine go_is rfl (stp_peqN rfl rfl) ?_) | (show GO _ _ _ _ _ (⟨some _, none, _⟩ :: _) _; first | refine go_op (hk := ?_) | (refine go_nw (hk := ?_); intro u; try simp only [llc, lln, lna, lza]) | (refine go_np (hk := ?_); intro id)) | (show GO _ _ _ _ _ (⟨none, none, _⟩ :: _) _; refine go_st (hk := ?_)) | (show GO _ _ _ _ _ (⟨_, some _, _⟩ :: _) _; first | refine go_in (hk := ?_) | refine go_out (hk := ?_) | refine go_void (hk := ?_)) | (show GK _ _ _ _ (blockK _ _ _); refine gk_past rfl ?_) | (show GC _ _ _ _ _ (.cond _ _ _) _; first | refine gc_yes (h1 := ?_) | refine gc_no (h1 := ?_))))
  refine go_is rfl (stp_len rfl hh0) ?_
  (repeat (first | refine gst (hk := ?_) | (refine go_is rfl (stp_peqN rfl rfl) ?_) | (show GO _ _ _ _ _ (⟨some _, none, _⟩ :: _) _; first | refine go_op (hk := ?_) | (refine go_nw (hk := ?_); intro u; try simp only [llc, lln, lna, lza]) | (refine go_np (hk := ?_); intro id)) | (show GO _ _ _ _ _ (⟨none, none, _⟩ :: _) _; refine go_st (hk := ?_)) | (show GO _ _ _ _ _ (⟨_, some _, _⟩ :: _) _; first | refine go_in (hk := ?_) | refine go_out (hk := ?_) | refine go_void (hk := ?_)) | (show GK _ _ _ _ (blockK _ _ _); refine gk_past rfl ?_) | (show GC _ _ _ _ _ (.cond _ _ _) _; first | refine gc_yes (h1 := ?_) | refine gc_no (h1 := ?_))))
  refine gc_loop (γ := Nat × List BK) (fun g => [(0, a), (3, aheadV g.2), (7, .int .i64 (xs.length : Int)), (8, .int .i64 (g.1 : Int))]) (fun g => stkS xs ws g.2 ++ S) (fun g => g.1 ≤ xs.length ∧ stkOk g.2 g.1 ∧ g.2.map (·.s) = poS (rS xs ws) (rW ws) g.1) (fun g => xs.length - g.1) (0, []) ⟨Nat.zero_le _, rfl, rfl⟩ (hS := sub_refl _) (hb := ?_)
  rintro ⟨i, st⟩ ⟨hi, hok, hps⟩ I ν μ hk
  simp only at hi hok hps
  (repeat (first | refine gst (hk := ?_) | (refine go_is rfl (stp_peqN rfl rfl) ?_) | (show GO _ _ _ _ _ (⟨some _, none, _⟩ :: _) _; first | refine go_op (hk := ?_) | (refine go_nw (hk := ?_); intro u; try simp only [llc, lln, lna, lza]) | (refine go_np (hk := ?_); intro id)) | (show GO _ _ _ _ _ (⟨none, none, _⟩ :: _) _; refine go_st (hk := ?_)) | (show GO _ _ _ _ _ (⟨_, some _, _⟩ :: _) _; first | refine go_in (hk := ?_) | refine go_out (hk := ?_) | refine go_void (hk := ?_)) | (show GK _ _ _ _ (blockK _ _ _); refine gk_past rfl ?_) | (show GC _ _ _ _ _ (.cond _ _ _) _; first | refine gc_yes (h1 := ?_) | refine gc_no (h1 := ?_))))
  refine gc_cond rfl (fun h => ?_) (fun h => ?_)
  · have hL := hp (by omega)
    (repeat (first | refine gst (hk := ?_) | (refine go_is rfl (stp_peqN rfl rfl) ?_) | (show GO _ _ _ _ _ (⟨some _, none, _⟩ :: _) _; first | refine go_op (hk := ?_) | (refine go_nw (hk := ?_); intro u; try simp only [llc, lln, lna, lza]) | (refine go_np (hk := ?_); intro id)) | (show GO _ _ _ _ _ (⟨none, none, _⟩ :: _) _; refine go_st (hk := ?_)) | (show GO _ _ _ _ _ (⟨_, some _, _⟩ :: _) _; first | refine go_in (hk := ?_) | refine go_out (hk := ?_) | refine go_void (hk := ?_)) | (show GK _ _ _ _ (blockK _ _ _); refine gk_past rfl ?_) | (show GC _ _ _ _ _ (.cond _ _ _) _; first | refine gc_yes (h1 := ?_) | refine gc_no (h1 := ?_))))
    refine go_know (p := ∃ id off, winV a i (i + 1) = .slice id off (i + 1 - i) (some (i + 1 - i)) 2) (fun m H hH => ?_) (fun hw => ?_)
    · obtain ⟨id, off, cap, rfl⟩ := slice_of (hH.valsA (hhas _)) (by omega)
      exact ⟨_, _, rfl⟩
    refine go_call rfl code_impl_cut.callable (fun H hH => cut_ok (hH.valsA (hhas _)) (l := i) (k := i) (by omega) (by omega)) ?_
    refine go_read (w := winV a i (i + 1)) (es := 2) (m := i + 1 - i) (ds := pns (wnL xs ws i (i + 1))) (fun H hv => vals_win cels_pn hv (ptL_len _ _).symm (by omega)) (hmem _) (fun j hj => winV_bid hj) ?_
    refine go_callg (V := aheadV) (T := fun st' => stkS xs ws st' ++ S) rfl code_impl_putBehind.callable (fun H hH => putBehind_ok hL (by omega) hH hw hok) ?_
    rintro st' ⟨hok', hps'⟩
    (repeat (first | refine gst (hk := ?_) | (refine go_is rfl (stp_peqN rfl rfl) ?_) | (show GO _ _ _ _ _ (⟨some _, none, _⟩ :: _) _; first | refine go_op (hk := ?_) | (refine go_nw (hk := ?_); intro u; try simp only [llc, lln, lna, lza]) | (refine go_np (hk := ?_); intro id)) | (show GO _ _ _ _ _ (⟨none, none, _⟩ :: _) _; refine go_st (hk := ?_)) | (show GO _ _ _ _ _ (⟨_, some _, _⟩ :: _) _; first | refine go_in (hk := ?_) | refine go_out (hk := ?_) | refine go_void (hk := ?_)) | (show GK _ _ _ _ (blockK _ _ _); refine gk_past rfl ?_) | (show GC _ _ _ _ _ (.cond _ _ _) _; first | refine gc_yes (h1 := ?_) | refine gc_no (h1 := ?_))))
    exact gk_next (hk (i + 1, st') ⟨by dsimp only; omega, hok', by rw [hps', hps]; rfl⟩ (by dsimp only; omega)) (hs := sub_refl _)
  · obtain rfl : i = xs.length := by omega
    (repeat (first | refine gst (hk := ?_) | (refine go_is rfl (stp_peqN rfl rfl) ?_) | (show GO _ _ _ _ _ (⟨some _, none, _⟩ :: _) _; first | refine go_op (hk := ?_) | (refine go_nw (hk := ?_); intro u; try simp only [llc, lln, lna, lza]) | (refine go_np (hk := ?_); intro id)) | (show GO _ _ _ _ _ (⟨none, none, _⟩ :: _) _; refine go_st (hk := ?_)) | (show GO _ _ _ _ _ (⟨_, some _, _⟩ :: _) _; first | refine go_in (hk := ?_) | refine go_out (hk := ?_) | refine go_void (hk := ?_)) | (show GK _ _ _ _ (blockK _ _ _); refine gk_past rfl ?_) | (show GC _ _ _ _ _ (.cond _ _ _) _; first | refine gc_yes (h1 := ?_) | refine gc_no (h1 := ?_))))
    refine gc_nilK 1 ?_
    refine gc_loop (γ := List BK × AV × List (AV × Nat × Nat)) (fun g => [(3, aheadV g.1), (5, g.2.1)]) (fun g => rwO g.2.1 g.2.2 :: (stkS xs ws g.1 ++ (rwS xs ws g.2.2 ++ S))) (fun g => (∃ e, stkOk g.1 e) ∧ (∀ q ∈ g.2.2, OneC q.1) ∧ g.2.2.map (·.2) ++ g.1.map (fun b => (b.s, b.e)) = st.map (fun b => (b.s, b.e)) ∧ g.2.2.length + g.1.length ≤ 8) (fun g => g.1.length) (st, .nilSlice, []) ⟨⟨_, hok⟩, by simp, rfl, ?_⟩ (hS := sub_refl _) (hb := ?_)
    · have := stk_len hok
      dsimp only [List.length_nil]; omega
    rintro ⟨s1, u, qs⟩ ⟨⟨e, hok1⟩, hone, hqs, hle⟩ I2 ν2 μ2 hk2
    simp only at hok1 hone hqs hle
    match s1, hok1 with
    | [], _ =>
      refine gc_keep [(3, .nilPtr), (5, u)] (rwO u qs :: (rwS xs ws qs ++ S)) (by (repeat (refine Cov.cons (by exact rfl) ?_)); exact Cov.nil) (sub_refl _) ?_
      (repeat (first | refine gst (hk := ?_) | (refine go_is rfl (stp_peqN rfl rfl) ?_) | (show GO _ _ _ _ _ (⟨some _, none, _⟩ :: _) _; first | refine go_op (hk := ?_) | (refine go_nw (hk := ?_); intro u; try simp only [llc, lln, lna, lza]) | (refine go_np (hk := ?_); intro id)) | (show GO _ _ _ _ _ (⟨none, none, _⟩ :: _) _; refine go_st (hk := ?_)) | (show GO _ _ _ _ _ (⟨_, some _, _⟩ :: _) _; first | refine go_in (hk := ?_) | refine go_out (hk := ?_) | refine go_void (hk := ?_)) | (show GK _ _ _ _ (blockK _ _ _); refine gk_past rfl ?_) | (show GC _ _ _ _ _ (.cond _ _ _) _; first | refine gc_yes (h1 := ?_) | refine gc_no (h1 := ?_))))
      refine go_callw rfl code_slices_Reverse_rows_impl_load_impl_load.callable (fun H hH => reverseV_ok hH .head (by simp) (fun w hw => by
        obtain ⟨q, hq, rfl⟩ := List.mem_map.1 hw
        exact hone q hq) (by omega)) ?_
      (repeat (first | refine gst (hk := ?_) | (refine go_is rfl (stp_peqN rfl rfl) ?_) | (show GO _ _ _ _ _ (⟨some _, none, _⟩ :: _) _; first | refine go_op (hk := ?_) | (refine go_nw (hk := ?_); intro u; try simp only [llc, lln, lna, lza]) | (refine go_np (hk := ?_); intro id)) | (show GO _ _ _ _ _ (⟨none, none, _⟩ :: _) _; refine go_st (hk := ?_)) | (show GO _ _ _ _ _ (⟨_, some _, _⟩ :: _) _; first | refine go_in (hk := ?_) | refine go_out (hk := ?_) | refine go_void (hk := ?_)) | (show GK _ _ _ _ (blockK _ _ _); refine gk_past rfl ?_) | (show GC _ _ _ _ _ (.cond _ _ _) _; first | refine gc_yes (h1 := ?_) | refine gc_no (h1 := ?_))))
      have e1 : rwO u qs.reverse = ⟨.rw, u, 1, qs.length, (qs.map (·.1)).reverse⟩ := by simp [rwO, List.map_reverse]
      refine gk_ret rfl fun H' hH => ⟨(u, qs.reverse), rfl, hH.sub ?_, ?_⟩
      · show Sub _ (rwO u qs.reverse :: (rwS xs ws qs.reverse ++ S))
        rw [e1]
        exact .cons .head (sub_perm (List.Perm.append_right _ ((List.reverse_perm _).map _)))
      · rw [List.map_reverse, ← hps, ← stk_bk hok, ← hqs]
        simp
    | ⟨bi, bk, bv, bs, be⟩ :: r, hok1 =>
      refine gc_keep [(3, .ptr bi 0), (5, u)] (rwO u qs :: ⟨.cell, .ptr bi 0, 2, 1, [bv, aheadV r]⟩ :: ⟨bk, bv, 2, be - bs, pns (wnL xs ws bs be)⟩ :: (stkS xs ws r ++ (rwS xs ws qs ++ S))) (by (repeat (refine Cov.cons (by exact rfl) ?_)); exact Cov.nil) (sub_refl _) ?_
      simp only [stkOk] at hok1
      obtain ⟨rfl, h2, h3, h4⟩ := hok1
      have k3 := h3.kd
      simp only at k3
      simp only [List.length_cons] at hle
      (repeat (first | refine gst (hk := ?_) | (refine go_is rfl (stp_peqN rfl rfl) ?_) | (show GO _ _ _ _ _ (⟨some _, none, _⟩ :: _) _; first | refine go_op (hk := ?_) | (refine go_nw (hk := ?_); intro u; try simp only [llc, lln, lna, lza]) | (refine go_np (hk := ?_); intro id)) | (show GO _ _ _ _ _ (⟨none, none, _⟩ :: _) _; refine go_st (hk := ?_)) | (show GO _ _ _ _ _ (⟨_, some _, _⟩ :: _) _; first | refine go_in (hk := ?_) | refine go_out (hk := ?_) | refine go_void (hk := ?_)) | (show GK _ _ _ _ (blockK _ _ _); refine gk_past rfl ?_) | (show GC _ _ _ _ _ (.cond _ _ _) _; first | refine gc_yes (h1 := ?_) | refine gc_no (h1 := ?_))))
      refine go_know (p := OneC bv) (fun m H hH => one_slice (hH.valsA (.tail (.tail (has_k k3))))) (fun ho => ?_)
      refine go_new rfl (stp_bslv rfl ho.1 ho.2) ?_
      intro w
      refine go_new rfl (stp_app (v := u) (es := 1) (n := qs.length) (m' := 1) (cs := qs.map (·.1)) (news := [bv]) rfl rfl (.tail .head) .rw (by simp [ho.2]) (by omega) (by omega) (by omega)) ?_
      intro u'
      refine go_frz k3 (.tail (.tail (.tail .head))) ?_
      (repeat (first | refine gst (hk := ?_) | (refine go_is rfl (stp_peqN rfl rfl) ?_) | (show GO _ _ _ _ _ (⟨some _, none, _⟩ :: _) _; first | refine go_op (hk := ?_) | (refine go_nw (hk := ?_); intro u; try simp only [llc, lln, lna, lza]) | (refine go_np (hk := ?_); intro id)) | (show GO _ _ _ _ _ (⟨none, none, _⟩ :: _) _; refine go_st (hk := ?_)) | (show GO _ _ _ _ _ (⟨_, some _, _⟩ :: _) _; first | refine go_in (hk := ?_) | refine go_out (hk := ?_) | refine go_void (hk := ?_)) | (show GK _ _ _ _ (blockK _ _ _); refine gk_past rfl ?_) | (show GC _ _ _ _ _ (.cond _ _ _) _; first | refine gc_yes (h1 := ?_) | refine gc_no (h1 := ?_))))
      have e1 : rwO u' (qs ++ [(bv, bs, be)]) = ⟨.rw, u', 1, qs.length + 1, qs.map (·.1) ++ [bv]⟩ := by simp [rwO]
      have e2 : rwS xs ws (qs ++ [(bv, bs, be)]) = rwS xs ws qs ++ [rwCh xs ws (bv, bs, be)] := by simp [rwS]
      refine gk_next (hk2 (r, u', qs ++ [(bv, bs, be)]) ⟨⟨_, h4⟩, fun q hq => ?_, ?_, ?_⟩ (by simp)) (hs := sub_pre (R := [⟨.rw, w, 1, 1, [bv]⟩, ⟨.cell, .ptr bi 0, 2, 1, [bv, aheadV r]⟩]) (sub_perm ?_))
      · rcases List.mem_append.1 hq with hq | hq
        · exact hone q hq
        · rw [List.mem_singleton.1 hq]; exact ho
      · rw [← hqs]; simp
      · simp only [List.length_append, List.length_cons, List.length_nil]; omega
      · simp only [e1, e2]
        exact perm_rw _ _ _ _ _ _ _

theorem bkL_len : ∀ (r : List Nat) (e : Nat), (bkL r e).length = r.length
  | [], _ => rfl
  | a :: r, e => by rw [bkL, List.length_append, bkL_len r a]; rfl

theorem bkL_at : ∀ {r : List Nat} {e j s u : Nat}, j < r.length → nth (stI r) j = (s : Int) → (if j + 1 < r.length then nth (stI r) (j + 1) else (e : Int)) = (u : Int) → (bkL r e)[j]? = some (s, u)
  | [], _, j, _, _, h, _, _ => absurd h (Nat.not_lt_zero _)
  | a :: r, e, j, s, u, h, h1, h2 => by
    have hl := stI_len r
    have hb := bkL_len r a
    rw [stI] at h1 h2
    rw [bkL]
    simp only [List.length_cons] at h h2
    rcases Nat.lt_or_ge j r.length with h3 | h3
    · rw [List.getElem?_append_left (by omega)]
      rw [nth_app_lt (by omega)] at h1
      refine bkL_at h3 h1 ?_
      rw [if_pos (by omega)] at h2
      rcases Nat.lt_or_ge (j + 1) r.length with h4 | h4
      · rw [if_pos h4, ← h2, nth_app_lt (by omega)]
      · rw [if_neg (by omega), ← h2, show j + 1 = (stI r).length by omega, nth_app_eq]
    · obtain rfl : j = r.length := by omega
      rw [List.getElem?_append_right (by omega), hb, Nat.sub_self]
      rw [← hl, nth_app_eq] at h1
      rw [if_neg (by omega)] at h2
      simp only [List.getElem?_cons_zero, Option.some.injEq]
      exact Prod.ext (by dsimp only; omega) (by dsimp only; omega)

structure BlkAt (xs ws : List Int) (qs : List (AV × Nat × Nat)) (j : Nat) (v : AV) (s u : Nat) : Prop where
  mem : (v, s, u) ∈ qs
  val : nthV (qs.map (·.1)) j = v
  st : nth (blL xs ws) j = (s : Int)
  nx : (if j + 1 < (blL xs ws).length then nth (blL xs ws) (j + 1) else (xs.length : Int)) = (u : Int)
  lt : s < u
  le : u ≤ xs.length
  fit : ∀ t, s ≤ t → t < u → fiR xs ws t = mnR xs ws s u
  z : j = 0 → s = 0
  l : j + 1 = (blL xs ws).length → u = xs.length

theorem blk_len {xs ws : List Int} {qs : List (AV × Nat × Nat)} (hq : qs.map (·.2) = bkL (poS (rS xs ws) (rW ws) xs.length) xs.length) : qs.length = (blL xs ws).length := by
  have := congrArg List.length hq
  rw [List.length_map, bkL_len] at this
  rw [this]; exact (stI_len _).symm

theorem blk_get {xs ws : List Int} (hL : Loads xs ws) {qs : List (AV × Nat × Nat)} (hq : qs.map (·.2) = bkL (poS (rS xs ws) (rW ws) xs.length) xs.length) {j : Nat} (hj : j < qs.length) : ∃ v s u, BlkAt xs ws qs j v s u := by
  have hsl : (blL xs ws).length = (poS (rS xs ws) (rW ws) xs.length).length := stI_len _
  have hlen := blk_len hq
  obtain ⟨s, u, g1, g2, g3, g4, g5, g6, g7, _⟩ := blk_at hL.blk.1 j (by omega)
  have hb := bkL_at (e := xs.length) (by omega) g1 g2
  rw [← hq, List.getElem?_map] at hb
  rw [List.getElem?_eq_getElem hj] at hb
  simp only [Option.map_some, Option.some.injEq] at hb
  refine ⟨qs[j].1, s, u, ?_, ?_, g1, by rw [hsl]; exact g2, g3, g4, fun t h1 h2 => ?_, g6, fun h => g7 (by omega)⟩
  · have : qs[j] = (qs[j].1, s, u) := Prod.ext rfl hb
    rw [← this]
    exact List.getElem_mem hj
  · rw [show nthV (qs.map (·.1)) j = (qs.map (·.1))[j]'(by rw [List.length_map]; exact hj) from nthA_of _, List.getElem_map]
  · rw [← mnR_mnA]; exact g5 t h1 h2

theorem rw_has {xs ws : List Int} {qs : List (AV × Nat × Nat)} {v : AV} {s u : Nat} (h : (v, s, u) ∈ qs) (T S : Sig) : Has (T ++ (rwS xs ws qs ++ S)) v 2 (u - s) (pns (wnL xs ws s u)) :=
  has_memk (c := rwCh xs ws (v, s, u)) (List.mem_append_right _ (List.mem_append_left _ (List.mem_map.2 ⟨_, h, rfl⟩))) (.inr rfl)

def sqT (xs ws : List Int) : Nat → Int
  | 0 => 0
  | i + 1 => sqT xs ws i + nth xs i * nth xs i * nth ws i

theorem Loads.sq1 {xs ws : List Int} (h : Loads xs ws) {i : Nat} (hi : i < xs.length) : (0 ≤ nth xs i * nth xs i ∧ nth xs i * nth xs i ≤ 900) ∧ 0 ≤ nth xs i * nth xs i * nth ws i ∧ nth xs i * nth xs i * nth ws i ≤ 4500 := by
  have hx := h.x i
  have hw := h.w hi
  generalize nth xs i = x at *
  generalize nth ws i = w at *
  have m1 := absmul (k := x) (l := x) (A := 30) (B := 30) (by omega) (by omega) (by omega) (by omega)
  have m0 : 0 ≤ x * x := by
    rcases Int.le_total 0 x with g | g
    · exact Int.mul_nonneg g g
    · have := Int.mul_nonneg (show 0 ≤ -x by omega) (show 0 ≤ -x by omega)
      rwa [Int.neg_mul_neg] at this
  refine ⟨⟨m0, by omega⟩, ?_⟩
  generalize x * x = y at *
  have m2 : y * w ≤ 900 * 5 := Int.mul_le_mul (by omega) (by omega) (by omega) (by omega)
  exact ⟨Int.mul_nonneg m0 (by omega), by omega⟩

theorem Loads.sq_bd {xs ws : List Int} (h : Loads xs ws) {s : Nat} : ∀ {t : Nat}, s ≤ t → t ≤ xs.length → 0 ≤ sqT xs ws t - sqT xs ws s ∧ sqT xs ws t - sqT xs ws s ≤ 4500 * ((t - s : Nat) : Int)
  | 0, h1, _ => by obtain rfl : s = 0 := by omega
                   simp
  | t + 1, h1, h2 => by
    rcases Nat.lt_or_ge t s with g | g
    · obtain rfl : s = t + 1 := by omega
      simp
    · have ih := h.sq_bd g (by omega)
      have := (h.sq1 (i := t) (by omega)).2
      rw [sqT]; omega

theorem mi_step {xs ws : List Int} {s : Nat} {m : Rat} : ∀ {t : Nat}, s ≤ t → (∀ j, s ≤ j → j < t → fiR xs ws j = m) → miR xs ws t = miR xs ws s + (((sqT xs ws t - sqT xs ws s : Int) : Rat) - m * ((dotT xs ws t - dotT xs ws s : Int) : Rat) - m * ((dotT xs ws t - dotT xs ws s : Int) : Rat) + m * m * ((sumI ws t - sumI ws s : Int) : Rat))
  | 0, h1, _ => by
    obtain rfl : s = 0 := by omega
    rw [Int.sub_self, Int.sub_self, Int.sub_self, show ((0 : Int) : Rat) = 0 from rfl]; grind
  | t + 1, h1, h2 => by
    rcases Nat.lt_or_ge t s with g | g
    · obtain rfl : s = t + 1 := by omega
      rw [Int.sub_self, Int.sub_self, Int.sub_self, show ((0 : Int) : Rat) = 0 from rfl]; grind
    · have ih := mi_step g fun j j1 j2 => h2 j j1 (by omega)
      have e : miR xs ws (t + 1) = miR xs ws t + sqM xs ws (fiR xs ws) t := rfl
      rw [e, ih]
      unfold sqM
      rw [h2 t g (by omega), sqT, show dotT xs ws (t + 1) = dotT xs ws t + nth xs t * nth ws t from rfl, show sumI ws (t + 1) = sumI ws t + nth ws t from rfl]
      simp only [Rat.intCast_add, Rat.intCast_sub, Rat.intCast_mul]
      grind

theorem mi_blk {xs ws : List Int} (hL : Loads xs ws) {s u : Nat} (h1 : s < u) (h2 : u ≤ xs.length) (hf : ∀ t, s ≤ t → t < u → fiR xs ws t = mnR xs ws s u) : miR xs ws s + ((sqT xs ws u - sqT xs ws s : Int) : Rat) - mnR xs ws s u * ((dotT xs ws u - dotT xs ws s : Int) : Rat) = miR xs ws u := by
  have hp := hL.pos h1 h2
  rw [mi_step (by omega) hf]
  have e : mnR xs ws s u * ((sumI ws u - sumI ws s : Int) : Rat) = ((dotT xs ws u - dotT xs ws s : Int) : Rat) := by
    unfold mnR
    exact Rat.div_mul_cancel (rat_ne (by omega))
  generalize mnR xs ws s u = m at *
  generalize ((sumI ws u - sumI ws s : Int) : Rat) = W at *
  generalize ((dotT xs ws u - dotT xs ws s : Int) : Rat) = D at *
  grind

structure MsFit (xs ws : List Int) (s u : Nat) : Prop where
  a : FitA (miR xs ws s) ((sqT xs ws u - sqT xs ws s : Int) : Rat)
  m : FitM (mnR xs ws s u) ((dotT xs ws u - dotT xs ws s : Int) : Rat)
  b : FitA (miR xs ws s + ((sqT xs ws u - sqT xs ws s : Int) : Rat)) (mnR xs ws s u * ((dotT xs ws u - dotT xs ws s : Int) : Rat))

theorem Loads.ms_fit {xs ws : List Int} (hL : Loads xs ws) {s u : Nat} (h1 : s < u) (h2 : u ≤ xs.length) : MsFit xs ws s u := by
  obtain ⟨Q, f1, hQ⟩ := hL.mi_fd (t := s) (by omega)
  have hp := hL.pos h1 h2
  have hs := hL.sums (i := s) (e := u) (by omega) h2
  have hq := hL.sq_bd (s := s) (t := u) (by omega) h2
  have hn := hL.2.2.2.2
  have f2 := hL.fd h1 h2
  have f3 : FD ((sqT xs ws u - sqT xs ws s : Int) : Rat) 1 36000 := FD.int (by omega)
  have f4 : FD ((dotT xs ws u - dotT xs ws s : Int) : Rat) 1 1200 := FD.int (by omega)
  have q0 := f1.pos.1
  have key : FitA (miR xs ws s) ((sqT xs ws u - sqT xs ws s : Int) : Rat) ∧ FitM (mnR xs ws s u) ((dotT xs ws u - dotT xs ws s : Int) : Rat) ∧ FitA (miR xs ws s + ((sqT xs ws u - sqT xs ws s : Int) : Rat)) (mnR xs ws s u * ((dotT xs ws u - dotT xs ws s : Int) : Rat)) := by
    generalize sqT xs ws u - sqT xs ws s = q at *
    generalize dotT xs ws u - dotT xs ws s = d at *
    generalize sumI ws u - sumI ws s = V at *
    have f5 := (f1.add (f3.lift (m := Q) q0 |>.to (D' := Q) (by omega))).mono (B := 180000 * Q) (by omega)
    have f6 := (f2.mul f4)
    have m : V * Q ≤ 40 * 92000000 := Int.mul_le_mul (by omega) hQ (by omega) (by omega)
    have m' : Q * V = V * Q := Int.mul_comm _ _
    refine ⟨fitA_of f1 f3 (by omega) (by omega) (by omega), fitM_of f2 f4 (by omega) (by omega), fitA_of f5 f6 ?_ ?_ ?_⟩
    · rw [Int.mul_one, Int.mul_assoc, m']; omega
    · rw [show 30 * V * 1200 * Q = 36000 * (V * Q) by grind]; omega
    · rw [Int.mul_one, m']; omega
  exact ⟨key.1, key.2.1, key.2.2⟩

theorem riseMiss_ok {H : Heap} {w : AV} {xs ws : List Int} (hw : Vals H w 2 xs.length (pns (ptL xs ws))) (hL : (xs = [] ∧ ws = []) ∨ Loads xs ws) :
    ACalls Try.prog fn_impl_riseMiss [w] H fun r H' => r = frV (miE xs ws) ∧ H' = H := by
  refine ACalls.val ?_ rfl
  have hp : 0 < xs.length → Loads xs ws := fun h0 => by
    rcases hL with ⟨rfl, _⟩ | h
    · simp at h0
    · exact h
  refine code_impl_riseMiss.go [roP w xs.length (ptL xs ws)] ⟨⟨rfl, hw⟩, trivial⟩ (by simp) ?_
  unfold mc_impl_riseMiss
  (repeat (first | refine gst (hk := ?_) | (show GO _ _ _ _ _ (⟨some _, none, _⟩ :: _) _; first | refine go_op (hk := ?_) | (refine go_nw (hk := ?_); intro u; try simp only [llc, lln, lna, lza]) | (refine go_np (hk := ?_); intro id)) | (show GR _ _ _ _ _ _ (⟨some _, none, _⟩ :: _) _; refine gr_op (hk := ?_)) | (show GO _ _ _ _ _ (⟨none, none, _⟩ :: _) _; refine go_st (hk := ?_)) | (show GR _ _ _ _ _ _ (⟨none, none, _⟩ :: _) _; refine gr_st (hk := ?_)) | (show GO _ _ _ _ _ (⟨_, some _, _⟩ :: _) _; first | refine go_in (hk := ?_) | refine go_out (hk := ?_) | refine go_void (hk := ?_)) | (show GK _ _ _ _ (blockK _ _ _); refine gk_past rfl ?_) | (show GC _ _ _ _ _ (.cond _ _ _) _; first | refine gc_yes (h1 := ?_) | refine gc_no (h1 := ?_))))
  revert id; intro i2
  refine go_callp rfl code_impl_whole.callable (fun H hH => implWhole_ok' (n := 0)) ?_
  (repeat (first | refine gst (hk := ?_) | (show GO _ _ _ _ _ (⟨some _, none, _⟩ :: _) _; first | refine go_op (hk := ?_) | (refine go_nw (hk := ?_); intro u; try simp only [llc, lln, lna, lza]) | (refine go_np (hk := ?_); intro id)) | (show GR _ _ _ _ _ _ (⟨some _, none, _⟩ :: _) _; refine gr_op (hk := ?_)) | (show GO _ _ _ _ _ (⟨none, none, _⟩ :: _) _; refine go_st (hk := ?_)) | (show GR _ _ _ _ _ _ (⟨none, none, _⟩ :: _) _; refine gr_st (hk := ?_)) | (show GO _ _ _ _ _ (⟨_, some _, _⟩ :: _) _; first | refine go_in (hk := ?_) | refine go_out (hk := ?_) | refine go_void (hk := ?_)) | (show GK _ _ _ _ (blockK _ _ _); refine gk_past rfl ?_) | (show GC _ _ _ _ _ (.cond _ _ _) _; first | refine gc_yes (h1 := ?_) | refine gc_no (h1 := ?_))))
  revert id; intro i3
  refine go_callg (V := fun g : AV × List (AV × Nat × Nat) => g.1) (T := fun g => (rwO g.1 g.2 :: rwS xs ws g.2) ++ [celF i3 ((0 : Int) : Rat), cel0 i2, roP w xs.length (ptL xs ws)]) rfl code_impl_risingBlocks.callable (fun H hH => risingBlocks_ok hH (by simp) hL) ?_
  rintro ⟨v, qs⟩ hq
  dsimp only at hq
  have hql := blk_len hq
  (repeat (first | refine gst (hk := ?_) | (show GO _ _ _ _ _ (⟨some _, none, _⟩ :: _) _; first | refine go_op (hk := ?_) | (refine go_nw (hk := ?_); intro u; try simp only [llc, lln, lna, lza]) | (refine go_np (hk := ?_); intro id)) | (show GR _ _ _ _ _ _ (⟨some _, none, _⟩ :: _) _; refine gr_op (hk := ?_)) | (show GO _ _ _ _ _ (⟨none, none, _⟩ :: _) _; refine go_st (hk := ?_)) | (show GR _ _ _ _ _ _ (⟨none, none, _⟩ :: _) _; refine gr_st (hk := ?_)) | (show GO _ _ _ _ _ (⟨_, some _, _⟩ :: _) _; first | refine go_in (hk := ?_) | refine go_out (hk := ?_) | refine go_void (hk := ?_)) | (show GK _ _ _ _ (blockK _ _ _); refine gk_past rfl ?_) | (show GC _ _ _ _ _ (.cond _ _ _) _; first | refine gc_yes (h1 := ?_) | refine gc_no (h1 := ?_))))
  have e0 : miR xs ws 0 = ((0 : Int) : Rat) := rfl
  refine gc_loop (γ := Nat × Nat) (fun g => [(2, .ptr i2 0), (3, .ptr i3 0), (11, v), (12, .int .i64 (qs.length : Int)), (13, .int .i64 (g.1 : Int))]) (fun g => [celF i3 (miR xs ws g.2), rwO v qs, cel0 i2] ++ (rwS xs ws qs ++ [roP w xs.length (ptL xs ws)])) (fun g => g.1 ≤ (blL xs ws).length ∧ (if g.1 < (blL xs ws).length then nth (blL xs ws) g.1 else (xs.length : Int)) = (g.2 : Int)) (fun g => (blL xs ws).length - g.1) (0, 0) ⟨Nat.zero_le _, ?_⟩ (hS := ?_) (hb := ?_)
  · by_cases h0 : 0 < (blL xs ws).length
    · have hn0 : 0 < xs.length := by
        rcases hL with ⟨rfl, rfl⟩ | h
        · simp [blL, stI, poS] at h0
        · exact h.2.2.2.1
      obtain ⟨y, s, e, h1⟩ := blk_get (hp hn0) hq (j := 0) (by omega)
      have := h1.z rfl
      subst this
      rw [if_pos (by dsimp only; omega), h1.st]
    · rcases hL with ⟨rfl, rfl⟩ | h
      · simp [blL, stI, poS]
      · have := h.bl_len; omega
  · rw [e0]
    exact .cons (.tail (sel_app (rwS xs ws qs) .head)) (.cons .head (.cons (sel_app (rwS xs ws qs) .head) (sub_refl _)))
  rintro ⟨j, s⟩ ⟨hj, hs⟩ I ν μ hk
  simp only at hj hs
  (repeat (first | refine gst (hk := ?_) | (show GO _ _ _ _ _ (⟨some _, none, _⟩ :: _) _; first | refine go_op (hk := ?_) | (refine go_nw (hk := ?_); intro u; try simp only [llc, lln, lna, lza]) | (refine go_np (hk := ?_); intro id)) | (show GR _ _ _ _ _ _ (⟨some _, none, _⟩ :: _) _; refine gr_op (hk := ?_)) | (show GO _ _ _ _ _ (⟨none, none, _⟩ :: _) _; refine go_st (hk := ?_)) | (show GR _ _ _ _ _ _ (⟨none, none, _⟩ :: _) _; refine gr_st (hk := ?_)) | (show GO _ _ _ _ _ (⟨_, some _, _⟩ :: _) _; first | refine go_in (hk := ?_) | refine go_out (hk := ?_) | refine go_void (hk := ?_)) | (show GK _ _ _ _ (blockK _ _ _); refine gk_past rfl ?_) | (show GC _ _ _ _ _ (.cond _ _ _) _; first | refine gc_yes (h1 := ?_) | refine gc_no (h1 := ?_))))
  refine gc_cond rfl (fun h1 => ?_) (fun h1 => ?_)
  · have hn0 : 0 < xs.length := by
      rcases hL with ⟨rfl, rfl⟩ | h
      · have : (blL [] []).length = 0 := rfl
        omega
      · exact h.2.2.2.1
    have hL' := hp hn0
    have hn := hL'.2.2.2.2
    have hbl := hL'.bl_len
    obtain ⟨y, s', e, hB⟩ := blk_get hL' hq (j := j) (by omega)
    have g1 := hB.st
    have g2 := hB.lt
    have g3 := hB.le
    rw [if_pos (by omega)] at hs
    obtain rfl : s' = s := by omega
    (repeat (first | refine gst (hk := ?_) | (show GO _ _ _ _ _ (⟨some _, none, _⟩ :: _) _; first | refine go_op (hk := ?_) | (refine go_nw (hk := ?_); intro u; try simp only [llc, lln, lna, lza]) | (refine go_np (hk := ?_); intro id)) | (show GR _ _ _ _ _ _ (⟨some _, none, _⟩ :: _) _; refine gr_op (hk := ?_)) | (show GO _ _ _ _ _ (⟨none, none, _⟩ :: _) _; refine go_st (hk := ?_)) | (show GR _ _ _ _ _ _ (⟨none, none, _⟩ :: _) _; refine gr_st (hk := ?_)) | (show GO _ _ _ _ _ (⟨_, some _, _⟩ :: _) _; first | refine go_in (hk := ?_) | refine go_out (hk := ?_) | refine go_void (hk := ?_)) | (show GK _ _ _ _ (blockK _ _ _); refine gk_past rfl ?_) | (show GC _ _ _ _ _ (.cond _ _ _) _; first | refine gc_yes (h1 := ?_) | refine gc_no (h1 := ?_))))
    refine go_is rfl (stp_ldV (i := j) rfl (by exact Has.auto) (by simp) (by simp; omega)) ?_
    rw [hB.val]
    (repeat (first | refine gst (hk := ?_) | (show GO _ _ _ _ _ (⟨some _, none, _⟩ :: _) _; first | refine go_op (hk := ?_) | (refine go_nw (hk := ?_); intro u; try simp only [llc, lln, lna, lza]) | (refine go_np (hk := ?_); intro id)) | (show GR _ _ _ _ _ _ (⟨some _, none, _⟩ :: _) _; refine gr_op (hk := ?_)) | (show GO _ _ _ _ _ (⟨none, none, _⟩ :: _) _; refine go_st (hk := ?_)) | (show GR _ _ _ _ _ _ (⟨none, none, _⟩ :: _) _; refine gr_st (hk := ?_)) | (show GO _ _ _ _ _ (⟨_, some _, _⟩ :: _) _; first | refine go_in (hk := ?_) | refine go_out (hk := ?_) | refine go_void (hk := ?_)) | (show GK _ _ _ _ (blockK _ _ _); refine gk_past rfl ?_) | (show GC _ _ _ _ _ (.cond _ _ _) _; first | refine gc_yes (h1 := ?_) | refine gc_no (h1 := ?_))))
    refine go_is rfl (stp_len rfl (rw_has hB.mem [_, _, _] _)) ?_
    (repeat (first | refine gst (hk := ?_) | (show GO _ _ _ _ _ (⟨some _, none, _⟩ :: _) _; first | refine go_op (hk := ?_) | (refine go_nw (hk := ?_); intro u; try simp only [llc, lln, lna, lza]) | (refine go_np (hk := ?_); intro id)) | (show GR _ _ _ _ _ _ (⟨some _, none, _⟩ :: _) _; refine gr_op (hk := ?_)) | (show GO _ _ _ _ _ (⟨none, none, _⟩ :: _) _; refine go_st (hk := ?_)) | (show GR _ _ _ _ _ _ (⟨none, none, _⟩ :: _) _; refine gr_st (hk := ?_)) | (show GO _ _ _ _ _ (⟨_, some _, _⟩ :: _) _; first | refine go_in (hk := ?_) | refine go_out (hk := ?_) | refine go_void (hk := ?_)) | (show GK _ _ _ _ (blockK _ _ _); refine gk_past rfl ?_) | (show GC _ _ _ _ _ (.cond _ _ _) _; first | refine gc_yes (h1 := ?_) | refine gc_no (h1 := ?_))))
    refine gc_up (e - s') (fun d => [(2, .ptr i2 0), (3, .ptr i3 0), (5, y), (6, .int .i64 (sqT xs ws (s' + d) - sqT xs ws s')), (11, v), (12, .int .i64 (qs.length : Int)), (13, .int .i64 (j : Int)), (17, y), (18, .int .i64 ((e - s' : Nat) : Int)), (19, .int .i64 (d : Int))]) (fun _ => [celF i3 (miR xs ws s'), rwO v qs, cel0 i2] ++ (rwS xs ws qs ++ [roP w xs.length (ptL xs ws)])) (hE := ?_) (hS := sub_refl _) (hb := ?_)
    · rw [Nat.add_zero, Int.sub_self]
      (repeat (refine Cov.cons (by exact rfl) ?_)); exact Cov.nil
    intro d hd I2 ν2 μ2 hk2
    (repeat (first | refine gst (hk := ?_) | (show GO _ _ _ _ _ (⟨some _, none, _⟩ :: _) _; first | refine go_op (hk := ?_) | (refine go_nw (hk := ?_); intro u; try simp only [llc, lln, lna, lza]) | (refine go_np (hk := ?_); intro id)) | (show GR _ _ _ _ _ _ (⟨some _, none, _⟩ :: _) _; refine gr_op (hk := ?_)) | (show GO _ _ _ _ _ (⟨none, none, _⟩ :: _) _; refine go_st (hk := ?_)) | (show GR _ _ _ _ _ _ (⟨none, none, _⟩ :: _) _; refine gr_st (hk := ?_)) | (show GO _ _ _ _ _ (⟨_, some _, _⟩ :: _) _; first | refine go_in (hk := ?_) | refine go_out (hk := ?_) | refine go_void (hk := ?_)) | (show GK _ _ _ _ (blockK _ _ _); refine gk_past rfl ?_) | (show GC _ _ _ _ _ (.cond _ _ _) _; first | refine gc_yes (h1 := ?_) | refine gc_no (h1 := ?_))))
    refine gc_cond rfl (fun h2 => ?_) (fun h2 => ?_)
    · have hk2 := hk2 (by omega)
      have q1 := hL'.sq1 (i := s' + d) (by omega)
      have q2 := hL'.sq_bd (s := s') (t := s' + d) (by omega) (by omega)
      rw [show sqT xs ws (s' + (d + 1)) = sqT xs ws (s' + d) + nth xs (s' + d) * nth xs (s' + d) * nth ws (s' + d) from rfl] at hk2
      (repeat (first | refine gst (hk := ?_) | (show GO _ _ _ _ _ (⟨some _, none, _⟩ :: _) _; first | refine go_op (hk := ?_) | (refine go_nw (hk := ?_); intro u; try simp only [llc, lln, lna, lza]) | (refine go_np (hk := ?_); intro id)) | (show GR _ _ _ _ _ _ (⟨some _, none, _⟩ :: _) _; refine gr_op (hk := ?_)) | (show GO _ _ _ _ _ (⟨none, none, _⟩ :: _) _; refine go_st (hk := ?_)) | (show GR _ _ _ _ _ _ (⟨none, none, _⟩ :: _) _; refine gr_st (hk := ?_)) | (show GO _ _ _ _ _ (⟨_, some _, _⟩ :: _) _; first | refine go_in (hk := ?_) | refine go_out (hk := ?_) | refine go_void (hk := ?_)) | (show GK _ _ _ _ (blockK _ _ _); refine gk_past rfl ?_) | (show GC _ _ _ _ _ (.cond _ _ _) _; first | refine gc_yes (h1 := ?_) | refine gc_no (h1 := ?_))))
      refine go_is rfl (stp_ixa (i := d) rfl rfl (rw_has hB.mem [_, _, _] _) (by omega)) ?_
      refine go_is rfl (stp_ldK cels_pn (0, 0) (i := d) rfl (rw_has hB.mem [_, _, _] _) (wn_len (xs := xs) (ws := ws) ⟨by omega, g3⟩).symm (by rw [wn_len (xs := xs) (ws := ws) ⟨by omega, g3⟩]; omega)) ?_
      rw [show nthA (0, 0) (wnL xs ws s' e) d = (nth xs (s' + d), nth ws (s' + d)) from wn_nth g3 (by omega)]
      simp only [pnC]
      generalize hP : nth xs (s' + d) * nth xs (s' + d) * nth ws (s' + d) = P at *
      (repeat (first | refine gst (hk := ?_) | (show GO _ _ _ _ _ (⟨some _, none, _⟩ :: _) _; first | refine go_op (hk := ?_) | (refine go_nw (hk := ?_); intro u; try simp only [llc, lln, lna, lza]) | (refine go_np (hk := ?_); intro id)) | (show GR _ _ _ _ _ _ (⟨some _, none, _⟩ :: _) _; refine gr_op (hk := ?_)) | (show GO _ _ _ _ _ (⟨none, none, _⟩ :: _) _; refine go_st (hk := ?_)) | (show GR _ _ _ _ _ _ (⟨none, none, _⟩ :: _) _; refine gr_st (hk := ?_)) | (show GO _ _ _ _ _ (⟨_, some _, _⟩ :: _) _; first | refine go_in (hk := ?_) | refine go_out (hk := ?_) | refine go_void (hk := ?_)) | (show GK _ _ _ _ (blockK _ _ _); refine gk_past rfl ?_) | (show GC _ _ _ _ _ (.cond _ _ _) _; first | refine gc_yes (h1 := ?_) | refine gc_no (h1 := ?_))))
      rw [hP]
      rw [show sqT xs ws (s' + d) + P - sqT xs ws s' = sqT xs ws (s' + d) - sqT xs ws s' + P by omega] at hk2
      exact gk_next hk2 (hs := sub_drop (sub_refl _))
    · obtain rfl : d = e - s' := by omega
      rw [show s' + (e - s') = e by omega]
      (repeat (first | refine gst (hk := ?_) | (show GO _ _ _ _ _ (⟨some _, none, _⟩ :: _) _; first | refine go_op (hk := ?_) | (refine go_nw (hk := ?_); intro u; try simp only [llc, lln, lna, lza]) | (refine go_np (hk := ?_); intro id)) | (show GR _ _ _ _ _ _ (⟨some _, none, _⟩ :: _) _; refine gr_op (hk := ?_)) | (show GO _ _ _ _ _ (⟨none, none, _⟩ :: _) _; refine go_st (hk := ?_)) | (show GR _ _ _ _ _ _ (⟨none, none, _⟩ :: _) _; refine gr_st (hk := ?_)) | (show GO _ _ _ _ _ (⟨_, some _, _⟩ :: _) _; first | refine go_in (hk := ?_) | refine go_out (hk := ?_) | refine go_void (hk := ?_)) | (show GK _ _ _ _ (blockK _ _ _); refine gk_past rfl ?_) | (show GC _ _ _ _ _ (.cond _ _ _) _; first | refine gc_yes (h1 := ?_) | refine gc_no (h1 := ?_))))
      have hf := hL'.ms_fit g2 g3
      refine gc_drcs (fun H => qtTab [(fn_impl_whole, dWhole), (fn_impl_Frac_plus, dPlusI), (fn_impl_meanOf, dOne [y] (frV (mnR xs ws s' e))), (fn_impl_totalOf, dOne [y] (.agg [.int .i64 (sumI ws e - sumI ws s'), .int .i64 (dotT xs ws e - dotT xs ws s')])), (fn_impl_Frac_times, dTimesI), (fn_impl_Frac_minus, dMinusI)]) (fun H hH => ?_) (fun H0 h0 => ?_)
      · exact qtTab_cons (dWhole_ok H) (qtTab_cons (dPlusI_ok H) (qtTab_cons (dOne_ok code_impl_meanOf.callable (meanOf_ok (hH.valsA (rw_has hB.mem [_, _, _] _)) hL' g2 g3)) (qtTab_cons (dOne_ok code_impl_totalOf.callable (totalOf_ok (hH.valsA (rw_has hB.mem [_, _, _] _)) hL' (by omega) g3)) (qtTab_cons (dTimesI_ok H) (qtTab_cons (dMinusI_ok H) qtTab_nil)))))
      (repeat (first | refine gst (hk := ?_) | (show GO _ _ _ _ _ (⟨some _, none, _⟩ :: _) _; first | refine go_op (hk := ?_) | (refine go_nw (hk := ?_); intro u; try simp only [llc, lln, lna, lza]) | (refine go_np (hk := ?_); intro id)) | (show GR _ _ _ _ _ _ (⟨some _, none, _⟩ :: _) _; refine gr_op (hk := ?_)) | (show GO _ _ _ _ _ (⟨none, none, _⟩ :: _) _; refine go_st (hk := ?_)) | (show GR _ _ _ _ _ _ (⟨none, none, _⟩ :: _) _; refine gr_st (hk := ?_)) | (show GO _ _ _ _ _ (⟨_, some _, _⟩ :: _) _; first | refine go_in (hk := ?_) | refine go_out (hk := ?_) | refine go_void (hk := ?_)) | (show GK _ _ _ _ (blockK _ _ _); refine gk_past rfl ?_) | (show GC _ _ _ _ _ (.cond _ _ _) _; first | refine gc_yes (h1 := ?_) | refine gc_no (h1 := ?_))))
      refine gr_call (v := frV ((sqT xs ws e - sqT xs ws s' : Int) : Rat)) rfl rfl ?_
      refine gr_call rfl (fam2_is (F := FitA) (p := miR xs ws s') (q := ((sqT xs ws e - sqT xs ws s' : Int) : Rat)) hf.a) ?_
      (repeat (first | refine gst (hk := ?_) | (show GO _ _ _ _ _ (⟨some _, none, _⟩ :: _) _; first | refine go_op (hk := ?_) | (refine go_nw (hk := ?_); intro u; try simp only [llc, lln, lna, lza]) | (refine go_np (hk := ?_); intro id)) | (show GR _ _ _ _ _ _ (⟨some _, none, _⟩ :: _) _; refine gr_op (hk := ?_)) | (show GO _ _ _ _ _ (⟨none, none, _⟩ :: _) _; refine go_st (hk := ?_)) | (show GR _ _ _ _ _ _ (⟨none, none, _⟩ :: _) _; refine gr_st (hk := ?_)) | (show GO _ _ _ _ _ (⟨_, some _, _⟩ :: _) _; first | refine go_in (hk := ?_) | refine go_out (hk := ?_) | refine go_void (hk := ?_)) | (show GK _ _ _ _ (blockK _ _ _); refine gk_past rfl ?_) | (show GC _ _ _ _ _ (.cond _ _ _) _; first | refine gc_yes (h1 := ?_) | refine gc_no (h1 := ?_))))
      refine gr_call rfl dOne_is ?_
      (repeat (first | refine gst (hk := ?_) | (show GO _ _ _ _ _ (⟨some _, none, _⟩ :: _) _; first | refine go_op (hk := ?_) | (refine go_nw (hk := ?_); intro u; try simp only [llc, lln, lna, lza]) | (refine go_np (hk := ?_); intro id)) | (show GR _ _ _ _ _ _ (⟨some _, none, _⟩ :: _) _; refine gr_op (hk := ?_)) | (show GO _ _ _ _ _ (⟨none, none, _⟩ :: _) _; refine go_st (hk := ?_)) | (show GR _ _ _ _ _ _ (⟨none, none, _⟩ :: _) _; refine gr_st (hk := ?_)) | (show GO _ _ _ _ _ (⟨_, some _, _⟩ :: _) _; first | refine go_in (hk := ?_) | refine go_out (hk := ?_) | refine go_void (hk := ?_)) | (show GK _ _ _ _ (blockK _ _ _); refine gk_past rfl ?_) | (show GC _ _ _ _ _ (.cond _ _ _) _; first | refine gc_yes (h1 := ?_) | refine gc_no (h1 := ?_))))
      refine gr_call rfl dOne_is ?_
      (repeat (first | refine gst (hk := ?_) | (show GO _ _ _ _ _ (⟨some _, none, _⟩ :: _) _; first | refine go_op (hk := ?_) | (refine go_nw (hk := ?_); intro u; try simp only [llc, lln, lna, lza]) | (refine go_np (hk := ?_); intro id)) | (show GR _ _ _ _ _ _ (⟨some _, none, _⟩ :: _) _; refine gr_op (hk := ?_)) | (show GO _ _ _ _ _ (⟨none, none, _⟩ :: _) _; refine go_st (hk := ?_)) | (show GR _ _ _ _ _ _ (⟨none, none, _⟩ :: _) _; refine gr_st (hk := ?_)) | (show GO _ _ _ _ _ (⟨_, some _, _⟩ :: _) _; first | refine go_in (hk := ?_) | refine go_out (hk := ?_) | refine go_void (hk := ?_)) | (show GK _ _ _ _ (blockK _ _ _); refine gk_past rfl ?_) | (show GC _ _ _ _ _ (.cond _ _ _) _; first | refine gc_yes (h1 := ?_) | refine gc_no (h1 := ?_))))
      refine gr_is (v := .int .i64 (dotT xs ws e - dotT xs ws s')) rfl (stp_fld rfl (by simp) (by exact rfl)) ?_
      refine gr_call rfl (dTimesI_is (p := mnR xs ws s' e) hf.m) ?_
      refine gr_call rfl (fam2_is (F := FitA) (p := miR xs ws s' + ((sqT xs ws e - sqT xs ws s' : Int) : Rat)) (q := mnR xs ws s' e * ((dotT xs ws e - dotT xs ws s' : Int) : Rat)) hf.b) ?_
      rw [mi_blk hL' g2 g3 hB.fit]
      (repeat (first | refine gst (hk := ?_) | (show GO _ _ _ _ _ (⟨some _, none, _⟩ :: _) _; first | refine go_op (hk := ?_) | (refine go_nw (hk := ?_); intro u; try simp only [llc, lln, lna, lza]) | (refine go_np (hk := ?_); intro id)) | (show GR _ _ _ _ _ _ (⟨some _, none, _⟩ :: _) _; refine gr_op (hk := ?_)) | (show GO _ _ _ _ _ (⟨none, none, _⟩ :: _) _; refine go_st (hk := ?_)) | (show GR _ _ _ _ _ _ (⟨none, none, _⟩ :: _) _; refine gr_st (hk := ?_)) | (show GO _ _ _ _ _ (⟨_, some _, _⟩ :: _) _; first | refine go_in (hk := ?_) | refine go_out (hk := ?_) | refine go_void (hk := ?_)) | (show GK _ _ _ _ (blockK _ _ _); refine gk_past rfl ?_) | (show GC _ _ _ _ _ (.cond _ _ _) _; first | refine gc_yes (h1 := ?_) | refine gc_no (h1 := ?_))))
      exact gk_next (hk (j + 1, e) ⟨by dsimp only; omega, hB.nx⟩ (by dsimp only; omega)) (hs := sub_refl _)
  · obtain rfl : j = (blL xs ws).length := by omega
    rw [if_neg (by omega)] at hs
    obtain rfl : s = xs.length := by omega
    (repeat (first | refine gst (hk := ?_) | (show GO _ _ _ _ _ (⟨some _, none, _⟩ :: _) _; first | refine go_op (hk := ?_) | (refine go_nw (hk := ?_); intro u; try simp only [llc, lln, lna, lza]) | (refine go_np (hk := ?_); intro id)) | (show GR _ _ _ _ _ _ (⟨some _, none, _⟩ :: _) _; refine gr_op (hk := ?_)) | (show GO _ _ _ _ _ (⟨none, none, _⟩ :: _) _; refine go_st (hk := ?_)) | (show GR _ _ _ _ _ _ (⟨none, none, _⟩ :: _) _; refine gr_st (hk := ?_)) | (show GO _ _ _ _ _ (⟨_, some _, _⟩ :: _) _; first | refine go_in (hk := ?_) | refine go_out (hk := ?_) | refine go_void (hk := ?_)) | (show GK _ _ _ _ (blockK _ _ _); refine gk_past rfl ?_) | (show GC _ _ _ _ _ (.cond _ _ _) _; first | refine gc_yes (h1 := ?_) | refine gc_no (h1 := ?_))))
    exact gk_retc rfl (by exact Sel.auto) rfl rfl fun H' hH => ⟨rfl, hH.leE⟩

theorem implRiseMiss_ok {H : Heap} {a b : AV} {xs ws : List Int} (ha : Ints H a xs) (hb : Ints H b ws) (hl : xs.length ≤ 1000000000) (hl' : ws.length ≤ 1000000000) :
    ACalls Try.prog fn_impl_RiseMiss [a, b] H fun r H' => r = rmX xs ws ∧ H' = H := by
  refine ACalls.val ?_ (by unfold rmX; split <;> rfl)
  refine code_impl_RiseMiss.go [.roI a xs.length xs, .roI b ws.length ws] ⟨⟨rfl, ha⟩, ⟨rfl, hb⟩, trivial⟩ (by simp) ?_
  unfold mc_impl_RiseMiss
  (repeat (first | refine gst (hk := ?_) | (show GO _ _ _ _ _ (⟨some _, none, .call _ _⟩ :: _) _; first | (refine go_callp rfl code_impl_ValidLoads.callable (fun H hH => implValidLoads_ok (hH.ints (by exact Has.auto)) (hH.ints (by exact Has.auto)) (by omega) (by omega)) ?_)) | (show GO _ _ _ _ _ (⟨some _, none, _⟩ :: _) _; first | refine go_op (hk := ?_) | (refine go_nw (hk := ?_); intro u; try simp only [llc, lln, lna, lza]) | (refine go_np (hk := ?_); intro id)) | (show GO _ _ _ _ _ (⟨none, none, _⟩ :: _) _; refine go_st (hk := ?_)) | (show GO _ _ _ _ _ (⟨_, some _, _⟩ :: _) _; first | refine go_in (hk := ?_) | refine go_out (hk := ?_) | refine go_void (hk := ?_)) | (show GK _ _ _ _ (blockK _ _ _); refine gk_past rfl ?_) | (show GC _ _ _ _ _ (.cond _ _ _) _; first | refine gc_yes (h1 := ?_) | refine gc_no (h1 := ?_))))
  refine gc_cond rfl (fun h => ?_) (fun h => ?_)
  · (repeat (first | refine gst (hk := ?_) | (show GO _ _ _ _ _ (⟨some _, none, .call _ _⟩ :: _) _; first | (refine go_callp rfl code_impl_ValidLoads.callable (fun H hH => implValidLoads_ok (hH.ints (by exact Has.auto)) (hH.ints (by exact Has.auto)) (by omega) (by omega)) ?_)) | (show GO _ _ _ _ _ (⟨some _, none, _⟩ :: _) _; first | refine go_op (hk := ?_) | (refine go_nw (hk := ?_); intro u; try simp only [llc, lln, lna, lza]) | (refine go_np (hk := ?_); intro id)) | (show GO _ _ _ _ _ (⟨none, none, _⟩ :: _) _; refine go_st (hk := ?_)) | (show GO _ _ _ _ _ (⟨_, some _, _⟩ :: _) _; first | refine go_in (hk := ?_) | refine go_out (hk := ?_) | refine go_void (hk := ?_)) | (show GK _ _ _ _ (blockK _ _ _); refine gk_past rfl ?_) | (show GC _ _ _ _ _ (.cond _ _ _) _; first | refine gc_yes (h1 := ?_) | refine gc_no (h1 := ?_))))
    exact gk_rets (rvs_c rfl (by exact Sel.auto) rfl rfl (rvs_t rfl rvs_nil)) fun H' hH => ⟨by unfold rmX; rw [if_neg h]; rfl, hH.leE⟩
  have hL := Decidable.not_not.1 h
  have hn := hL.2.2.2.2
  (repeat (first | refine gst (hk := ?_) | (show GO _ _ _ _ _ (⟨some _, none, .call _ _⟩ :: _) _; first | (refine go_callp rfl code_impl_ValidLoads.callable (fun H hH => implValidLoads_ok (hH.ints (by exact Has.auto)) (hH.ints (by exact Has.auto)) (by omega) (by omega)) ?_)) | (show GO _ _ _ _ _ (⟨some _, none, _⟩ :: _) _; first | refine go_op (hk := ?_) | (refine go_nw (hk := ?_); intro u; try simp only [llc, lln, lna, lza]) | (refine go_np (hk := ?_); intro id)) | (show GO _ _ _ _ _ (⟨none, none, _⟩ :: _) _; refine go_st (hk := ?_)) | (show GO _ _ _ _ _ (⟨_, some _, _⟩ :: _) _; first | refine go_in (hk := ?_) | refine go_out (hk := ?_) | refine go_void (hk := ?_)) | (show GK _ _ _ _ (blockK _ _ _); refine gk_past rfl ?_) | (show GC _ _ _ _ _ (.cond _ _ _) _; first | refine gc_yes (h1 := ?_) | refine gc_no (h1 := ?_))))
  refine go_calln rfl code_impl_loadsOf.callable (fun H hH => loadsOf_ok (hH.ints (by exact Has.auto)) (hH.ints (by exact Has.auto)) hL.2.2.1 (by omega)) ?_
  intro u
  refine go_callp rfl code_impl_riseMiss.callable (fun H hH => riseMiss_ok (xs := xs) (ws := ws) (hH.valsA (by exact Has.auto)) (.inr hL)) ?_
  (repeat (first | refine gst (hk := ?_) | (show GO _ _ _ _ _ (⟨some _, none, .call _ _⟩ :: _) _; first | (refine go_callp rfl code_impl_ValidLoads.callable (fun H hH => implValidLoads_ok (hH.ints (by exact Has.auto)) (hH.ints (by exact Has.auto)) (by omega) (by omega)) ?_)) | (show GO _ _ _ _ _ (⟨some _, none, _⟩ :: _) _; first | refine go_op (hk := ?_) | (refine go_nw (hk := ?_); intro u; try simp only [llc, lln, lna, lza]) | (refine go_np (hk := ?_); intro id)) | (show GO _ _ _ _ _ (⟨none, none, _⟩ :: _) _; refine go_st (hk := ?_)) | (show GO _ _ _ _ _ (⟨_, some _, _⟩ :: _) _; first | refine go_in (hk := ?_) | refine go_out (hk := ?_) | refine go_void (hk := ?_)) | (show GK _ _ _ _ (blockK _ _ _); refine gk_past rfl ?_) | (show GC _ _ _ _ _ (.cond _ _ _) _; first | refine gc_yes (h1 := ?_) | refine gc_no (h1 := ?_))))
  exact gk_rets (rvs_c rfl (by exact Sel.auto) rfl rfl (rvs_t rfl rvs_nil)) fun H' hH => ⟨by unfold rmX; rw [if_pos hL]; rfl, hH.leE⟩

theorem ptL_zip {xs ws : List Int} (h : xs.length = ws.length) : ptL xs ws = xs.zip ws := by
  apply List.ext_getElem
  · rw [ptL_len, List.length_zip]; omega
  · intro i h1 h2
    rw [ptL_len] at h1
    have h3 : i < (ptL xs ws).length := by rw [ptL_len]; exact h1
    rw [List.getElem_zip, ← nth_of h1, ← nth_of (by omega), ← ptL_nth h1]
    exact (nthA_of h3).symm

theorem ptL_take {xs ws : List Int} (h : xs.length = ws.length) (k : Nat) : (ptL xs ws).take k = ptL (xs.take k) (ws.take k) := by
  rw [ptL_zip h, ptL_zip (by simp [h]), List.zip_eq_zipWith, List.zip_eq_zipWith, List.take_zipWith]

theorem ptL_rest {xs ws : List Int} (h : xs.length = ws.length) (k : Nat) : ((ptL xs ws).drop k).reverse = ptL (xs.drop k).reverse (ws.drop k).reverse := by
  rw [ptL_zip h, ptL_zip (by simp [h]), List.zip_eq_zipWith, List.zip_eq_zipWith, List.drop_zipWith, List.reverse_zipWith (by simp [h])]

theorem fallMiss_ok {A : Heap} {X : List Nat} {S S0 : Sig} {H : Heap} {v : AV} {xs ws : List Int} {k : Nat} (hS : SOk A X S H.size H) (hs : Sel S (rwP v xs.length (ptL xs ws)) S0) (hL : Loads xs ws) (hk : k ≤ xs.length) :
    ACalls Try.prog fn_impl_fallMiss [subW v k xs.length] H fun r H' => r = frV (miE (xs.drop k).reverse (ws.drop k).reverse) ∧ SOk A X (rwP v xs.length (ptL xs ws) :: S0) H'.size H' := by
  have hn := hL.2.2.2.2
  have hpl := ptL_len xs ws
  have e1 : ((ptL xs ws).take k ++ ((ptL xs ws).drop k).reverse).length = xs.length := by
    rw [← hpl]; simp; omega
  have e2 : ((ptL xs ws).take k ++ ((ptL xs ws).drop k).reverse).drop k = ((ptL xs ws).drop k).reverse := by
    rw [List.drop_append, List.drop_eq_nil_of_le (by simp; omega), List.nil_append, List.length_take, hpl, Nat.min_eq_left hk, Nat.sub_self, List.drop_zero]
  have e3 : ((ptL xs ws).take k ++ ((ptL xs ws).drop k).reverse).take k = (ptL xs ws).take k := by
    rw [List.take_append_of_le_length (by simp; omega), List.take_take, Nat.min_self]
  have e4 : ((xs.drop k).reverse).length = xs.length - k := by simp
  refine hcd_goS code_impl_fallMiss (hS.sel hs) (by simp) ?_
  unfold mc_impl_fallMiss
  (repeat (first | refine gst (hk := ?_) | (show GO _ _ _ _ _ (⟨some _, none, _⟩ :: _) _; first | refine go_op (hk := ?_) | (refine go_nw (hk := ?_); intro u; try simp only [llc, lln, lna, lza]) | (refine go_np (hk := ?_); intro id)) | (show GO _ _ _ _ _ (⟨none, none, _⟩ :: _) _; refine go_st (hk := ?_)) | (show GO _ _ _ _ _ (⟨_, some _, _⟩ :: _) _; first | refine go_in (hk := ?_) | refine go_out (hk := ?_) | refine go_void (hk := ?_)) | (show GK _ _ _ _ (blockK _ _ _); refine gk_past rfl ?_) | (show GC _ _ _ _ _ (.cond _ _ _) _; first | refine gc_yes (h1 := ?_) | refine gc_no (h1 := ?_))))
  revert id; intro i2
  refine go_callw rfl code_slices_Reverse_impl_load_impl_load.callable (fun H hH => reverseL_ok (l := k) hH (by exact Sel.auto) hpl.symm hk (.inl rfl) (by omega)) ?_
  (repeat (first | refine gst (hk := ?_) | (show GO _ _ _ _ _ (⟨some _, none, _⟩ :: _) _; first | refine go_op (hk := ?_) | (refine go_nw (hk := ?_); intro u; try simp only [llc, lln, lna, lza]) | (refine go_np (hk := ?_); intro id)) | (show GO _ _ _ _ _ (⟨none, none, _⟩ :: _) _; refine go_st (hk := ?_)) | (show GO _ _ _ _ _ (⟨_, some _, _⟩ :: _) _; first | refine go_in (hk := ?_) | refine go_out (hk := ?_) | refine go_void (hk := ?_)) | (show GK _ _ _ _ (blockK _ _ _); refine gk_past rfl ?_) | (show GC _ _ _ _ _ (.cond _ _ _) _; first | refine gc_yes (h1 := ?_) | refine gc_no (h1 := ?_))))
  refine gc_dfr ?_
  (repeat (first | refine gst (hk := ?_) | (show GO _ _ _ _ _ (⟨some _, none, _⟩ :: _) _; first | refine go_op (hk := ?_) | (refine go_nw (hk := ?_); intro u; try simp only [llc, lln, lna, lza]) | (refine go_np (hk := ?_); intro id)) | (show GO _ _ _ _ _ (⟨none, none, _⟩ :: _) _; refine go_st (hk := ?_)) | (show GO _ _ _ _ _ (⟨_, some _, _⟩ :: _) _; first | refine go_in (hk := ?_) | refine go_out (hk := ?_) | refine go_void (hk := ?_)) | (show GK _ _ _ _ (blockK _ _ _); refine gk_past rfl ?_) | (show GC _ _ _ _ _ (.cond _ _ _) _; first | refine gc_yes (h1 := ?_) | refine gc_no (h1 := ?_))))
  refine gk_dfr rfl rfl rfl ?_
  (repeat (first | refine gst (hk := ?_) | (show GO _ _ _ _ _ (⟨some _, none, _⟩ :: _) _; first | refine go_op (hk := ?_) | (refine go_nw (hk := ?_); intro u; try simp only [llc, lln, lna, lza]) | (refine go_np (hk := ?_); intro id)) | (show GO _ _ _ _ _ (⟨none, none, _⟩ :: _) _; refine go_st (hk := ?_)) | (show GO _ _ _ _ _ (⟨_, some _, _⟩ :: _) _; first | refine go_in (hk := ?_) | refine go_out (hk := ?_) | refine go_void (hk := ?_)) | (show GK _ _ _ _ (blockK _ _ _); refine gk_past rfl ?_) | (show GC _ _ _ _ _ (.cond _ _ _) _; first | refine gc_yes (h1 := ?_) | refine gc_no (h1 := ?_))))
  refine go_callp rfl code_impl_riseMiss.callable (fun H hH => riseMiss_ok (xs := (xs.drop k).reverse) (ws := (ws.drop k).reverse) (by
    have h := vals_sub (l := k) cels_pn (hH.valsA (v := v) (es := 2) (n := xs.length) (cs := pns ((ptL xs ws).take k ++ ((ptL xs ws).drop k).reverse)) (by exact Has.auto)) e1.symm hk
    rw [e2, ptL_rest hL.2.2.1] at h
    rw [e4]; exact h) (hL.two hk).2) ?_
  (repeat (first | refine gst (hk := ?_) | (show GO _ _ _ _ _ (⟨some _, none, _⟩ :: _) _; first | refine go_op (hk := ?_) | (refine go_nw (hk := ?_); intro u; try simp only [llc, lln, lna, lza]) | (refine go_np (hk := ?_); intro id)) | (show GO _ _ _ _ _ (⟨none, none, _⟩ :: _) _; refine go_st (hk := ?_)) | (show GO _ _ _ _ _ (⟨_, some _, _⟩ :: _) _; first | refine go_in (hk := ?_) | refine go_out (hk := ?_) | refine go_void (hk := ?_)) | (show GK _ _ _ _ (blockK _ _ _); refine gk_past rfl ?_) | (show GC _ _ _ _ _ (.cond _ _ _) _; first | refine gc_yes (h1 := ?_) | refine gc_no (h1 := ?_))))
  refine gk_leave (.inr rfl) rfl ?_
  refine gl_call code_slices_Reverse_impl_load_impl_load.callable (fun H hH => ⟨_, reverseL_df (l := k) hH (by exact Sel.auto) e1.symm hk (.inl rfl) (by omega), fun r H' h => h.2⟩) (gl_nil ?_)
  rw [e3, e2, List.reverse_reverse, List.take_append_drop]
  exact gk_retc rfl (by exact Sel.auto) rfl rfl fun H' hH => ⟨rfl, hH.sub (.cons .head (sub_drop (sub_refl _)))⟩
/- peaks -/

def pkC (t : Nat × Rat) : List AV := [.int .i64 (t.1 : Int), .int .i64 t.2.num, .int .i64 (t.2.den : Int)]

theorem cels_pk : Cels pkC 3 := ⟨fun _ => rfl, fun _ => rfl⟩

abbrev pks (L : List (Nat × Rat)) : List AV := cellsK pkC L

abbrev pkV (t : Nat × Rat) : AV := .agg (pkC t)

abbrev nthQ (L : List (Nat × Rat)) (i : Nat) : Nat × Rat := nthA (0, 0) L i

theorem peakCompare_ok {H : Heap} {s t : Nat × Rat} (hf : FitA s.2 t.2) :
    ACalls Try.prog fn_impl_peak_compare [pkV s, pkV t] H fun r H' => r = .int .i64 (cmR s.2 t.2) ∧ H' = H := by
  refine ACalls.val ?_ rfl
  unfold pkV pkC
  refine code_impl_peak_compare.go [] trivial (by simp) ?_
  unfold mc_impl_peak_compare
  (repeat (first | refine gst (hk := ?_) | (show GO _ _ _ _ _ (⟨some _, none, _⟩ :: _) _; first | refine go_op (hk := ?_) | (refine go_nw (hk := ?_); intro u; try simp only [llc, lln, lna, lza]) | (refine go_np (hk := ?_); intro id)) | (show GO _ _ _ _ _ (⟨none, none, _⟩ :: _) _; refine go_st (hk := ?_)) | (show GO _ _ _ _ _ (⟨_, some _, _⟩ :: _) _; first | refine go_in (hk := ?_) | refine go_out (hk := ?_) | refine go_void (hk := ?_)) | (show GK _ _ _ _ (blockK _ _ _); refine gk_past rfl ?_) | (show GC _ _ _ _ _ (.cond _ _ _) _; first | refine gc_yes (h1 := ?_) | refine gc_no (h1 := ?_))))
  refine go_callp rfl code_impl_Frac_compare.callable (fun H hH => implCompare_ok (p := s.2) (q := t.2) hf) ?_
  (repeat (first | refine gst (hk := ?_) | (show GO _ _ _ _ _ (⟨some _, none, _⟩ :: _) _; first | refine go_op (hk := ?_) | (refine go_nw (hk := ?_); intro u; try simp only [llc, lln, lna, lza]) | (refine go_np (hk := ?_); intro id)) | (show GO _ _ _ _ _ (⟨none, none, _⟩ :: _) _; refine go_st (hk := ?_)) | (show GO _ _ _ _ _ (⟨_, some _, _⟩ :: _) _; first | refine go_in (hk := ?_) | refine go_out (hk := ?_) | refine go_void (hk := ?_)) | (show GK _ _ _ _ (blockK _ _ _); refine gk_past rfl ?_) | (show GC _ _ _ _ _ (.cond _ _ _) _; first | refine gc_yes (h1 := ?_) | refine gc_no (h1 := ?_))))
  exact gk_ret rfl fun H' hH => ⟨rfl, hH.leE⟩

def lfP (g : Nat → Nat × Rat) : Nat → Nat × Rat
  | 0 => g 0
  | k + 1 => if (g (k + 1)).2 < (lfP g k).2 then g (k + 1) else lfP g k

theorem lfP_is (g : Nat → Nat × Rat) : ∀ k, ∃ j, j ≤ k ∧ lfP g k = g j
  | 0 => ⟨0, Nat.le_refl _, rfl⟩
  | k + 1 => by
    obtain ⟨j, h1, h2⟩ := lfP_is g k
    rw [lfP]; split
    · exact ⟨k + 1, Nat.le_refl _, rfl⟩
    · exact ⟨j, by omega, h2⟩

abbrev celP (i : Nat) (t : Nat × Rat) : Ch := ⟨.cell, .ptr i 0, 3, 1, pkC t⟩

theorem leastP_ok {H : Heap} {w : AV} {g : Nat → Nat × Rat} {L : List (Nat × Rat)} (hw : Vals H w 3 L.length (pks L)) (hL : ∀ i, i < L.length → nthQ L i = g (i + 1)) (hl : L.length ≤ 1000000) (hf : ∀ i j, i ≤ L.length → j ≤ L.length → FitA (g i).2 (g j).2) :
    ACalls Try.prog fn_impl_least_impl_peak [pkV (g 0), w] H fun r H' => r = pkV (lfP g L.length) ∧ H' = H := by
  refine ACalls.val ?_ rfl
  refine code_impl_least_impl_peak.go [⟨.ro, w, 3, L.length, pks L⟩] ⟨⟨rfl, hw⟩, trivial⟩ (by simp) ?_
  unfold mc_impl_least_impl_peak
  (repeat (first | refine gst (hk := ?_) | (show GO _ _ _ _ _ (⟨some _, none, .inv _ _ _⟩ :: _) _; refine go_inv rfl rfl ?_) | (show GQ _ _ _ _ _ _ _ (⟨some _, none, .inv _ _ _⟩ :: _) _; refine gq_inv rfl rfl ?_) | (show GR _ _ _ _ _ _ (⟨some _, none, .inv _ _ _⟩ :: _) _; refine gr_inv rfl rfl ?_) | (show GO _ _ _ _ _ (⟨some _, none, _⟩ :: _) _; first | refine go_op (hk := ?_) | (refine go_nw (hk := ?_); intro u; try simp only [llc, lln, lna, lza]) | (refine go_np (hk := ?_); intro id)) | (show GO _ _ _ _ _ (⟨none, none, _⟩ :: _) _; refine go_st (hk := ?_)) | (show GO _ _ _ _ _ (⟨_, some _, _⟩ :: _) _; first | refine go_in (hk := ?_) | refine go_out (hk := ?_) | refine go_void (hk := ?_)) | (show GK _ _ _ _ (blockK _ _ _); refine gk_past rfl ?_) | (show GC _ _ _ _ _ (.cond _ _ _) _; first | refine gc_yes (h1 := ?_) | refine gc_no (h1 := ?_))))
  rename_i i2
  revert id; intro i4
  refine gc_up L.length (fun i => [(2, .ptr i2 0), (4, .ptr i4 0), (7, w), (8, .int .i64 (L.length : Int)), (9, .int .i64 (i : Int))]) (fun i => [celP i2 (lfP g i), ⟨.cell, .ptr i4 0, 3, 1, [.int .i64 0, .int .i64 0, .int .i64 0]⟩, ⟨.ro, w, 3, L.length, pks L⟩]) (hb := ?_)
  intro i hi I ν m hk
  (repeat (first | refine gst (hk := ?_) | (show GO _ _ _ _ _ (⟨some _, none, .inv _ _ _⟩ :: _) _; refine go_inv rfl rfl ?_) | (show GQ _ _ _ _ _ _ _ (⟨some _, none, .inv _ _ _⟩ :: _) _; refine gq_inv rfl rfl ?_) | (show GR _ _ _ _ _ _ (⟨some _, none, .inv _ _ _⟩ :: _) _; refine gr_inv rfl rfl ?_) | (show GO _ _ _ _ _ (⟨some _, none, _⟩ :: _) _; first | refine go_op (hk := ?_) | (refine go_nw (hk := ?_); intro u; try simp only [llc, lln, lna, lza]) | (refine go_np (hk := ?_); intro id)) | (show GO _ _ _ _ _ (⟨none, none, _⟩ :: _) _; refine go_st (hk := ?_)) | (show GO _ _ _ _ _ (⟨_, some _, _⟩ :: _) _; first | refine go_in (hk := ?_) | refine go_out (hk := ?_) | refine go_void (hk := ?_)) | (show GK _ _ _ _ (blockK _ _ _); refine gk_past rfl ?_) | (show GC _ _ _ _ _ (.cond _ _ _) _; first | refine gc_yes (h1 := ?_) | refine gc_no (h1 := ?_))))
  refine gc_cond rfl (fun h => ?_) (fun h => ?_)
  · have hk := hk (by omega)
    rw [lfP] at hk
    have hfit : FitA (g (i + 1)).2 (lfP g i).2 := by
      obtain ⟨j, hj, e⟩ := lfP_is g i
      rw [e]; exact hf _ _ (by omega) (by omega)
    (repeat (first | refine gst (hk := ?_) | (show GO _ _ _ _ _ (⟨some _, none, .inv _ _ _⟩ :: _) _; refine go_inv rfl rfl ?_) | (show GQ _ _ _ _ _ _ _ (⟨some _, none, .inv _ _ _⟩ :: _) _; refine gq_inv rfl rfl ?_) | (show GR _ _ _ _ _ _ (⟨some _, none, .inv _ _ _⟩ :: _) _; refine gr_inv rfl rfl ?_) | (show GO _ _ _ _ _ (⟨some _, none, _⟩ :: _) _; first | refine go_op (hk := ?_) | (refine go_nw (hk := ?_); intro u; try simp only [llc, lln, lna, lza]) | (refine go_np (hk := ?_); intro id)) | (show GO _ _ _ _ _ (⟨none, none, _⟩ :: _) _; refine go_st (hk := ?_)) | (show GO _ _ _ _ _ (⟨_, some _, _⟩ :: _) _; first | refine go_in (hk := ?_) | refine go_out (hk := ?_) | refine go_void (hk := ?_)) | (show GK _ _ _ _ (blockK _ _ _); refine gk_past rfl ?_) | (show GC _ _ _ _ _ (.cond _ _ _) _; first | refine gc_yes (h1 := ?_) | refine gc_no (h1 := ?_))))
    refine go_is rfl (stp_ldK cels_pk (0, 0) (i := i) rfl (by exact Has.auto) rfl (by omega)) ?_
    rw [show nthA (0, 0) L i = g (i + 1) from hL i (by omega)]
    generalize g (i + 1) = t1 at *
    generalize hst : lfP g i = t0 at *
    unfold celP pkC
    (repeat (first | refine gst (hk := ?_) | (show GO _ _ _ _ _ (⟨some _, none, .inv _ _ _⟩ :: _) _; refine go_inv rfl rfl ?_) | (show GQ _ _ _ _ _ _ _ (⟨some _, none, .inv _ _ _⟩ :: _) _; refine gq_inv rfl rfl ?_) | (show GR _ _ _ _ _ _ (⟨some _, none, .inv _ _ _⟩ :: _) _; refine gr_inv rfl rfl ?_) | (show GO _ _ _ _ _ (⟨some _, none, _⟩ :: _) _; first | refine go_op (hk := ?_) | (refine go_nw (hk := ?_); intro u; try simp only [llc, lln, lna, lza]) | (refine go_np (hk := ?_); intro id)) | (show GO _ _ _ _ _ (⟨none, none, _⟩ :: _) _; refine go_st (hk := ?_)) | (show GO _ _ _ _ _ (⟨_, some _, _⟩ :: _) _; first | refine go_in (hk := ?_) | refine go_out (hk := ?_) | refine go_void (hk := ?_)) | (show GK _ _ _ _ (blockK _ _ _); refine gk_past rfl ?_) | (show GC _ _ _ _ _ (.cond _ _ _) _; first | refine gc_yes (h1 := ?_) | refine gc_no (h1 := ?_))))
    refine go_callp rfl code_impl_peak_compare.callable (fun H hH => peakCompare_ok (s := t1) (t := t0) hfit) ?_
    (repeat (first | refine gst (hk := ?_) | (show GO _ _ _ _ _ (⟨some _, none, .inv _ _ _⟩ :: _) _; refine go_inv rfl rfl ?_) | (show GQ _ _ _ _ _ _ _ (⟨some _, none, .inv _ _ _⟩ :: _) _; refine gq_inv rfl rfl ?_) | (show GR _ _ _ _ _ _ (⟨some _, none, .inv _ _ _⟩ :: _) _; refine gr_inv rfl rfl ?_) | (show GO _ _ _ _ _ (⟨some _, none, _⟩ :: _) _; first | refine go_op (hk := ?_) | (refine go_nw (hk := ?_); intro u; try simp only [llc, lln, lna, lza]) | (refine go_np (hk := ?_); intro id)) | (show GO _ _ _ _ _ (⟨none, none, _⟩ :: _) _; refine go_st (hk := ?_)) | (show GO _ _ _ _ _ (⟨_, some _, _⟩ :: _) _; first | refine go_in (hk := ?_) | refine go_out (hk := ?_) | refine go_void (hk := ?_)) | (show GK _ _ _ _ (blockK _ _ _); refine gk_past rfl ?_) | (show GC _ _ _ _ _ (.cond _ _ _) _; first | refine gc_yes (h1 := ?_) | refine gc_no (h1 := ?_))))
    refine gc_cond rfl (fun h1 => ?_) (fun h1 => ?_)
    · rw [if_pos (cmR_neg.1 h1)] at hk
      (repeat (first | refine gst (hk := ?_) | (show GO _ _ _ _ _ (⟨some _, none, .inv _ _ _⟩ :: _) _; refine go_inv rfl rfl ?_) | (show GQ _ _ _ _ _ _ _ (⟨some _, none, .inv _ _ _⟩ :: _) _; refine gq_inv rfl rfl ?_) | (show GR _ _ _ _ _ _ (⟨some _, none, .inv _ _ _⟩ :: _) _; refine gr_inv rfl rfl ?_) | (show GO _ _ _ _ _ (⟨some _, none, _⟩ :: _) _; first | refine go_op (hk := ?_) | (refine go_nw (hk := ?_); intro u; try simp only [llc, lln, lna, lza]) | (refine go_np (hk := ?_); intro id)) | (show GO _ _ _ _ _ (⟨none, none, _⟩ :: _) _; refine go_st (hk := ?_)) | (show GO _ _ _ _ _ (⟨_, some _, _⟩ :: _) _; first | refine go_in (hk := ?_) | refine go_out (hk := ?_) | refine go_void (hk := ?_)) | (show GK _ _ _ _ (blockK _ _ _); refine gk_past rfl ?_) | (show GC _ _ _ _ _ (.cond _ _ _) _; first | refine gc_yes (h1 := ?_) | refine gc_no (h1 := ?_))))
      exact gk_next hk
    · rw [if_neg (fun h2 => h1 (cmR_neg.2 h2))] at hk
      (repeat (first | refine gst (hk := ?_) | (show GO _ _ _ _ _ (⟨some _, none, .inv _ _ _⟩ :: _) _; refine go_inv rfl rfl ?_) | (show GQ _ _ _ _ _ _ _ (⟨some _, none, .inv _ _ _⟩ :: _) _; refine gq_inv rfl rfl ?_) | (show GR _ _ _ _ _ _ (⟨some _, none, .inv _ _ _⟩ :: _) _; refine gr_inv rfl rfl ?_) | (show GO _ _ _ _ _ (⟨some _, none, _⟩ :: _) _; first | refine go_op (hk := ?_) | (refine go_nw (hk := ?_); intro u; try simp only [llc, lln, lna, lza]) | (refine go_np (hk := ?_); intro id)) | (show GO _ _ _ _ _ (⟨none, none, _⟩ :: _) _; refine go_st (hk := ?_)) | (show GO _ _ _ _ _ (⟨_, some _, _⟩ :: _) _; first | refine go_in (hk := ?_) | refine go_out (hk := ?_) | refine go_void (hk := ?_)) | (show GK _ _ _ _ (blockK _ _ _); refine gk_past rfl ?_) | (show GC _ _ _ _ _ (.cond _ _ _) _; first | refine gc_yes (h1 := ?_) | refine gc_no (h1 := ?_))))
      exact gk_next hk
  · have : i = L.length := by omega
    subst this
    generalize hst : lfP g L.length = t0 at *
    unfold celP pkC
    (repeat (first | refine gst (hk := ?_) | (show GO _ _ _ _ _ (⟨some _, none, .inv _ _ _⟩ :: _) _; refine go_inv rfl rfl ?_) | (show GQ _ _ _ _ _ _ _ (⟨some _, none, .inv _ _ _⟩ :: _) _; refine gq_inv rfl rfl ?_) | (show GR _ _ _ _ _ _ (⟨some _, none, .inv _ _ _⟩ :: _) _; refine gr_inv rfl rfl ?_) | (show GO _ _ _ _ _ (⟨some _, none, _⟩ :: _) _; first | refine go_op (hk := ?_) | (refine go_nw (hk := ?_); intro u; try simp only [llc, lln, lna, lza]) | (refine go_np (hk := ?_); intro id)) | (show GO _ _ _ _ _ (⟨none, none, _⟩ :: _) _; refine go_st (hk := ?_)) | (show GO _ _ _ _ _ (⟨_, some _, _⟩ :: _) _; first | refine go_in (hk := ?_) | refine go_out (hk := ?_) | refine go_void (hk := ?_)) | (show GK _ _ _ _ (blockK _ _ _); refine gk_past rfl ?_) | (show GC _ _ _ _ _ (.cond _ _ _) _; first | refine gc_yes (h1 := ?_) | refine gc_no (h1 := ?_))))
    exact gk_retc rfl (by exact Sel.auto) rfl rfl fun H' hH => ⟨rfl, hH.leE⟩

theorem lfP_pk (xs ws : List Int) : ∀ k, lfP (fun j => (j, ptR xs ws j)) k = (pkN xs ws k, ptR xs ws (pkN xs ws k))
  | 0 => rfl
  | k + 1 => by
    rw [lfP, lfP_pk xs ws k]
    dsimp only
    rw [show pkN xs ws (k + 1) = if ptR xs ws (k + 1) < ptR xs ws (pkN xs ws k) then k + 1 else pkN xs ws k from rfl]
    split <;> rfl

theorem nthQ_drop {n i : Nat} {g : Nat → Nat × Rat} (h : i < n) : nthQ ((tabS (n + 1) g).drop 1) i = g (i + 1) := by
  have h1 : i < ((tabS (n + 1) g).drop 1).length := by rw [List.length_drop, tabS_len]; omega
  rw [show nthQ ((tabS (n + 1) g).drop 1) i = ((tabS (n + 1) g).drop 1)[i] from nthA_of h1, List.getElem_drop]
  simp only [tabS, List.getElem_map, List.getElem_range, Nat.add_comm]

theorem tabS_snoc {α : Type} (n : Nat) (g : Nat → α) : tabS n g ++ [g n] = tabS (n + 1) g := by
  unfold tabS
  rw [List.range_succ, List.map_append]; rfl

end Go.Rx.Try
