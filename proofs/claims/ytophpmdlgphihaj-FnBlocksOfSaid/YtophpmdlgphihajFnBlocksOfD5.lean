import Derived.Test.YtophpmdlgphihajFnBlocksOfD4
namespace Go.Rx.Try
open Go.Proofs
set_option maxRecDepth 100000
set_option maxHeartbeats 8000000
set_option linter.unusedSimpArgs false
set_option linter.unusedVariables false

theorem reverseV_ok {A : Heap} {X : List Nat} {S S0 : Sig} {H : Heap} {v : AV} {n : Nat} {vs : List AV} (hS : SOk A X S H.size H) (hs : Sel S ⟨.rw, v, 1, n, vs⟩ S0) (hn : n = vs.length) (hone : ∀ u ∈ vs, OneC u) (hb : n ≤ 1000000) :
    ACalls Try.prog fn_slices_Reverse_rows_impl_load_impl_load [v] H fun r H' => r = .tuple [] ∧ SOk A X (⟨.rw, v, 1, n, vs.reverse⟩ :: S0) H'.size H' := by
  have hw : v = subW v 0 n ∨ (0 = 0 ∧ v = v) := .inr ⟨rfl, rfl⟩
  refine hc_goS code_slices_Reverse_rows_impl_load_impl_load (hS.sel hs) (by simp) ?_
  unfold mc_slices_Reverse_rows_impl_load_impl_load
  (repeat (first | refine gst (hk := ?_) | (with_reducible first | (refine gc_drw (h := ?_); intro _) | (refine gc_drw2 (h := ?_); intro _)) | (show GO _ _ _ _ _ (⟨some _, none, _⟩ :: _) _; first | refine go_op (hk := ?_) | (refine go_nw (hk := ?_); intro u; try simp only [llc, lln, lna, lza]) | (refine go_np (hk := ?_); intro id)) | (show GD _ _ _ _ _ _ _ (⟨some _, none, _⟩ :: _) _; first | refine gd_op (hk := ?_) | (refine gd_nw (hk := ?_); intro u; try simp only [llc, lln, lna, lza])) | (show GD2 _ _ _ _ _ _ _ _ _ _ _ _ _ _; first | refine gd2_nil rfl ?_ | refine gd2_op (hk := ?_) | (refine gd2_nw (hk := ?_); intro u; try simp only [llc, lln, lna, lza]) | refine gd2_l (hk := ?_) | refine gd2_lp (hk := ?_) | (refine gd2_newp (hk := ?_); intro id) | refine gd2_st (hk := ?_) | (refine gd2_bsl rfl rfl ?_; intro u; try simp only [llc, lln, lna, lza]) | (refine gd2_a (hk := ?_); intro u; try simp only [llc, lln, lna, lza])) | (show GO _ _ _ _ _ (⟨none, none, _⟩ :: _) _; refine go_st (hk := ?_)) | (show GD _ _ _ _ _ _ _ (⟨none, none, _⟩ :: _) _; refine gd_st (hk := ?_)) | (show GO _ _ _ _ _ (⟨_, some _, _⟩ :: _) _; first | refine go_in (hk := ?_) | refine go_out (hk := ?_) | refine go_void (hk := ?_)) | (show GK _ _ _ _ (blockK _ _ _); refine gk_past rfl ?_) | (show GC _ _ _ _ _ (.cond _ _ _) _; first | refine gc_yes (h1 := ?_) | refine gc_no (h1 := ?_))))
  have e0 : (⟨.rw, v, 1, n, vs⟩ : Ch) = ⟨.rw, v, 1, n, tabS n fun k => nthV vs (rvF 0 n 0 k)⟩ := by
    rw [tabS_congr (g := fun k => nthV vs k) (fun k hk => by rw [rv_zero hk])]
    rw [show (tabS n fun k => nthV vs k) = vs from tab_self _ hn]
  rw [e0]
  refine gc_loop (γ := Nat) (fun i => [(0, v), (2, .int .i64 (i : Int)), (3, .int .i64 ((n : Int) - 1 - (i : Int)))]) (fun i => ⟨.rw, v, 1, n, tabS n fun k => nthV vs (rvF 0 n i k)⟩ :: S0) (fun i => 0 + 2 * i ≤ n + 1) (fun i => n - i) 0 (by omega) (hS := ?_) (hE := ?_) (hb := ?_)
  · refine Cov.cons (by exact rfl) (Cov.cons (by exact rfl) (Cov.consv (by exact rfl) ?_ Cov.nil))
    congr 1; omega
  · exact sub_refl _
  intro i hi I ν μ hk
  (repeat (first | refine gst (hk := ?_) | (with_reducible first | (refine gc_drw (h := ?_); intro _) | (refine gc_drw2 (h := ?_); intro _)) | (show GO _ _ _ _ _ (⟨some _, none, _⟩ :: _) _; first | refine go_op (hk := ?_) | (refine go_nw (hk := ?_); intro u; try simp only [llc, lln, lna, lza]) | (refine go_np (hk := ?_); intro id)) | (show GD _ _ _ _ _ _ _ (⟨some _, none, _⟩ :: _) _; first | refine gd_op (hk := ?_) | (refine gd_nw (hk := ?_); intro u; try simp only [llc, lln, lna, lza])) | (show GD2 _ _ _ _ _ _ _ _ _ _ _ _ _ _; first | refine gd2_nil rfl ?_ | refine gd2_op (hk := ?_) | (refine gd2_nw (hk := ?_); intro u; try simp only [llc, lln, lna, lza]) | refine gd2_l (hk := ?_) | refine gd2_lp (hk := ?_) | (refine gd2_newp (hk := ?_); intro id) | refine gd2_st (hk := ?_) | (refine gd2_bsl rfl rfl ?_; intro u; try simp only [llc, lln, lna, lza]) | (refine gd2_a (hk := ?_); intro u; try simp only [llc, lln, lna, lza])) | (show GO _ _ _ _ _ (⟨none, none, _⟩ :: _) _; refine go_st (hk := ?_)) | (show GD _ _ _ _ _ _ _ (⟨none, none, _⟩ :: _) _; refine gd_st (hk := ?_)) | (show GO _ _ _ _ _ (⟨_, some _, _⟩ :: _) _; first | refine go_in (hk := ?_) | refine go_out (hk := ?_) | refine go_void (hk := ?_)) | (show GK _ _ _ _ (blockK _ _ _); refine gk_past rfl ?_) | (show GC _ _ _ _ _ (.cond _ _ _) _; first | refine gc_yes (h1 := ?_) | refine gc_no (h1 := ?_))))
  refine gc_cond rfl (fun h => ?_) (fun h => ?_)
  · have hlt : i < n - 0 - 1 - i := by omega
    have v1 : nthV (tabS n fun k => nthV vs (rvF 0 n i k)) (n - 1 - i) = nthV vs (n - 1 - i) := by
      rw [show nthV (tabS n fun k => nthV vs (rvF 0 n i k)) (n - 1 - i) = nthV vs (rvF 0 n i (n - 1 - i)) from tabS_nth (by omega)]
      congr 1; unfold rvF; (repeat' split) <;> omega
    have v2 : nthV (tabS n fun k => nthV vs (rvF 0 n i k)) i = nthV vs i := by
      rw [show nthV (tabS n fun k => nthV vs (rvF 0 n i k)) i = nthV vs (rvF 0 n i i) from tabS_nth (by omega)]
      congr 1; unfold rvF; (repeat' split) <;> omega
    have o1 := nthV_one hone (i := n - 1 - i) (by omega)
    have o2 := nthV_one hone (i := i) (by omega)
    have ej : ((n : Int) - 1 - (i : Int)) = ((n - 1 - i : Nat) : Int) := by omega
    (repeat (first | refine gst (hk := ?_) | (with_reducible first | (refine gc_drw (h := ?_); intro _) | (refine gc_drw2 (h := ?_); intro _)) | (show GO _ _ _ _ _ (⟨some _, none, _⟩ :: _) _; first | refine go_op (hk := ?_) | (refine go_nw (hk := ?_); intro u; try simp only [llc, lln, lna, lza]) | (refine go_np (hk := ?_); intro id)) | (show GD _ _ _ _ _ _ _ (⟨some _, none, _⟩ :: _) _; first | refine gd_op (hk := ?_) | (refine gd_nw (hk := ?_); intro u; try simp only [llc, lln, lna, lza])) | (show GD2 _ _ _ _ _ _ _ _ _ _ _ _ _ _; first | refine gd2_nil rfl ?_ | refine gd2_op (hk := ?_) | (refine gd2_nw (hk := ?_); intro u; try simp only [llc, lln, lna, lza]) | refine gd2_l (hk := ?_) | refine gd2_lp (hk := ?_) | (refine gd2_newp (hk := ?_); intro id) | refine gd2_st (hk := ?_) | (refine gd2_bsl rfl rfl ?_; intro u; try simp only [llc, lln, lna, lza]) | (refine gd2_a (hk := ?_); intro u; try simp only [llc, lln, lna, lza])) | (show GO _ _ _ _ _ (⟨none, none, _⟩ :: _) _; refine go_st (hk := ?_)) | (show GD _ _ _ _ _ _ _ (⟨none, none, _⟩ :: _) _; refine gd_st (hk := ?_)) | (show GO _ _ _ _ _ (⟨_, some _, _⟩ :: _) _; first | refine go_in (hk := ?_) | refine go_out (hk := ?_) | refine go_void (hk := ?_)) | (show GK _ _ _ _ (blockK _ _ _); refine gk_past rfl ?_) | (show GC _ _ _ _ _ (.cond _ _ _) _; first | refine gc_yes (h1 := ?_) | refine gc_no (h1 := ?_))))
    rw [show ((n : Int) - 1 - (i : Int)).toNat = n - 1 - i by omega]
    refine gd_is rfl (stp_ldV (i := n - 1 - i) rfl (by exact Has.auto) (tabS_len _ _).symm (by rw [tabS_len]; omega)) ?_
    rw [v1]
    (repeat (first | refine gst (hk := ?_) | (with_reducible first | (refine gc_drw (h := ?_); intro _) | (refine gc_drw2 (h := ?_); intro _)) | (show GO _ _ _ _ _ (⟨some _, none, _⟩ :: _) _; first | refine go_op (hk := ?_) | (refine go_nw (hk := ?_); intro u; try simp only [llc, lln, lna, lza]) | (refine go_np (hk := ?_); intro id)) | (show GD _ _ _ _ _ _ _ (⟨some _, none, _⟩ :: _) _; first | refine gd_op (hk := ?_) | (refine gd_nw (hk := ?_); intro u; try simp only [llc, lln, lna, lza])) | (show GD2 _ _ _ _ _ _ _ _ _ _ _ _ _ _; first | refine gd2_nil rfl ?_ | refine gd2_op (hk := ?_) | (refine gd2_nw (hk := ?_); intro u; try simp only [llc, lln, lna, lza]) | refine gd2_l (hk := ?_) | refine gd2_lp (hk := ?_) | (refine gd2_newp (hk := ?_); intro id) | refine gd2_st (hk := ?_) | (refine gd2_bsl rfl rfl ?_; intro u; try simp only [llc, lln, lna, lza]) | (refine gd2_a (hk := ?_); intro u; try simp only [llc, lln, lna, lza])) | (show GO _ _ _ _ _ (⟨none, none, _⟩ :: _) _; refine go_st (hk := ?_)) | (show GD _ _ _ _ _ _ _ (⟨none, none, _⟩ :: _) _; refine gd_st (hk := ?_)) | (show GO _ _ _ _ _ (⟨_, some _, _⟩ :: _) _; first | refine go_in (hk := ?_) | refine go_out (hk := ?_) | refine go_void (hk := ?_)) | (show GK _ _ _ _ (blockK _ _ _); refine gk_past rfl ?_) | (show GC _ _ _ _ _ (.cond _ _ _) _; first | refine gc_yes (h1 := ?_) | refine gc_no (h1 := ?_))))
    refine gd_is rfl (stp_ldV (i := i) rfl (by exact Has.auto) (tabS_len _ _).symm (by rw [tabS_len]; omega)) ?_
    rw [v2]
    (repeat (first | refine gst (hk := ?_) | (with_reducible first | (refine gc_drw (h := ?_); intro _) | (refine gc_drw2 (h := ?_); intro _)) | (show GO _ _ _ _ _ (⟨some _, none, _⟩ :: _) _; first | refine go_op (hk := ?_) | (refine go_nw (hk := ?_); intro u; try simp only [llc, lln, lna, lza]) | (refine go_np (hk := ?_); intro id)) | (show GD _ _ _ _ _ _ _ (⟨some _, none, _⟩ :: _) _; first | refine gd_op (hk := ?_) | (refine gd_nw (hk := ?_); intro u; try simp only [llc, lln, lna, lza])) | (show GD2 _ _ _ _ _ _ _ _ _ _ _ _ _ _; first | refine gd2_nil rfl ?_ | refine gd2_op (hk := ?_) | (refine gd2_nw (hk := ?_); intro u; try simp only [llc, lln, lna, lza]) | refine gd2_l (hk := ?_) | refine gd2_lp (hk := ?_) | (refine gd2_newp (hk := ?_); intro id) | refine gd2_st (hk := ?_) | (refine gd2_bsl rfl rfl ?_; intro u; try simp only [llc, lln, lna, lza]) | (refine gd2_a (hk := ?_); intro u; try simp only [llc, lln, lna, lza])) | (show GO _ _ _ _ _ (⟨none, none, _⟩ :: _) _; refine go_st (hk := ?_)) | (show GD _ _ _ _ _ _ _ (⟨none, none, _⟩ :: _) _; refine gd_st (hk := ?_)) | (show GO _ _ _ _ _ (⟨_, some _, _⟩ :: _) _; first | refine go_in (hk := ?_) | refine go_out (hk := ?_) | refine go_void (hk := ?_)) | (show GK _ _ _ _ (blockK _ _ _); refine gk_past rfl ?_) | (show GC _ _ _ _ _ (.cond _ _ _) _; first | refine gc_yes (h1 := ?_) | refine gc_no (h1 := ?_))))
    refine gd_is0 rfl (stp_stv1 (i := i) rfl rfl o1 (by exact Sel.auto) (by omega)) ?_
    (repeat (first | refine gst (hk := ?_) | (with_reducible first | (refine gc_drw (h := ?_); intro _) | (refine gc_drw2 (h := ?_); intro _)) | (show GO _ _ _ _ _ (⟨some _, none, _⟩ :: _) _; first | refine go_op (hk := ?_) | (refine go_nw (hk := ?_); intro u; try simp only [llc, lln, lna, lza]) | (refine go_np (hk := ?_); intro id)) | (show GD _ _ _ _ _ _ _ (⟨some _, none, _⟩ :: _) _; first | refine gd_op (hk := ?_) | (refine gd_nw (hk := ?_); intro u; try simp only [llc, lln, lna, lza])) | (show GD2 _ _ _ _ _ _ _ _ _ _ _ _ _ _; first | refine gd2_nil rfl ?_ | refine gd2_op (hk := ?_) | (refine gd2_nw (hk := ?_); intro u; try simp only [llc, lln, lna, lza]) | refine gd2_l (hk := ?_) | refine gd2_lp (hk := ?_) | (refine gd2_newp (hk := ?_); intro id) | refine gd2_st (hk := ?_) | (refine gd2_bsl rfl rfl ?_; intro u; try simp only [llc, lln, lna, lza]) | (refine gd2_a (hk := ?_); intro u; try simp only [llc, lln, lna, lza])) | (show GO _ _ _ _ _ (⟨none, none, _⟩ :: _) _; refine go_st (hk := ?_)) | (show GD _ _ _ _ _ _ _ (⟨none, none, _⟩ :: _) _; refine gd_st (hk := ?_)) | (show GO _ _ _ _ _ (⟨_, some _, _⟩ :: _) _; first | refine go_in (hk := ?_) | refine go_out (hk := ?_) | refine go_void (hk := ?_)) | (show GK _ _ _ _ (blockK _ _ _); refine gk_past rfl ?_) | (show GC _ _ _ _ _ (.cond _ _ _) _; first | refine gc_yes (h1 := ?_) | refine gc_no (h1 := ?_))))
    rw [show ((n : Int) - 1 - (i : Int)).toNat = n - 1 - i by omega]
    refine gd_is0 rfl (stp_stv1 (i := n - 1 - i) rfl rfl o2 (by exact Sel.auto) (by omega)) ?_
    rw [tabS_set, tabS_set, tabS_congr (g := fun k => nthV vs (rvF 0 n (i + 1) k)) (fun k hk => by
      rw [rv_next hk hlt (Nat.zero_le _), Nat.zero_add, Nat.zero_add, Nat.sub_zero]
      split
      · rfl
      · split <;> rfl)]
    (repeat (first | refine gst (hk := ?_) | (with_reducible first | (refine gc_drw (h := ?_); intro _) | (refine gc_drw2 (h := ?_); intro _)) | (show GO _ _ _ _ _ (⟨some _, none, _⟩ :: _) _; first | refine go_op (hk := ?_) | (refine go_nw (hk := ?_); intro u; try simp only [llc, lln, lna, lza]) | (refine go_np (hk := ?_); intro id)) | (show GD _ _ _ _ _ _ _ (⟨some _, none, _⟩ :: _) _; first | refine gd_op (hk := ?_) | (refine gd_nw (hk := ?_); intro u; try simp only [llc, lln, lna, lza])) | (show GD2 _ _ _ _ _ _ _ _ _ _ _ _ _ _; first | refine gd2_nil rfl ?_ | refine gd2_op (hk := ?_) | (refine gd2_nw (hk := ?_); intro u; try simp only [llc, lln, lna, lza]) | refine gd2_l (hk := ?_) | refine gd2_lp (hk := ?_) | (refine gd2_newp (hk := ?_); intro id) | refine gd2_st (hk := ?_) | (refine gd2_bsl rfl rfl ?_; intro u; try simp only [llc, lln, lna, lza]) | (refine gd2_a (hk := ?_); intro u; try simp only [llc, lln, lna, lza])) | (show GO _ _ _ _ _ (⟨none, none, _⟩ :: _) _; refine go_st (hk := ?_)) | (show GD _ _ _ _ _ _ _ (⟨none, none, _⟩ :: _) _; refine gd_st (hk := ?_)) | (show GO _ _ _ _ _ (⟨_, some _, _⟩ :: _) _; first | refine go_in (hk := ?_) | refine go_out (hk := ?_) | refine go_void (hk := ?_)) | (show GK _ _ _ _ (blockK _ _ _); refine gk_past rfl ?_) | (show GC _ _ _ _ _ (.cond _ _ _) _; first | refine gc_yes (h1 := ?_) | refine gc_no (h1 := ?_))))
    exact gk_next (hk (i + 1) (by omega) (by omega)) (hs := sub_refl _)
  · (repeat (first | refine gst (hk := ?_) | (with_reducible first | (refine gc_drw (h := ?_); intro _) | (refine gc_drw2 (h := ?_); intro _)) | (show GO _ _ _ _ _ (⟨some _, none, _⟩ :: _) _; first | refine go_op (hk := ?_) | (refine go_nw (hk := ?_); intro u; try simp only [llc, lln, lna, lza]) | (refine go_np (hk := ?_); intro id)) | (show GD _ _ _ _ _ _ _ (⟨some _, none, _⟩ :: _) _; first | refine gd_op (hk := ?_) | (refine gd_nw (hk := ?_); intro u; try simp only [llc, lln, lna, lza])) | (show GD2 _ _ _ _ _ _ _ _ _ _ _ _ _ _; first | refine gd2_nil rfl ?_ | refine gd2_op (hk := ?_) | (refine gd2_nw (hk := ?_); intro u; try simp only [llc, lln, lna, lza]) | refine gd2_l (hk := ?_) | refine gd2_lp (hk := ?_) | (refine gd2_newp (hk := ?_); intro id) | refine gd2_st (hk := ?_) | (refine gd2_bsl rfl rfl ?_; intro u; try simp only [llc, lln, lna, lza]) | (refine gd2_a (hk := ?_); intro u; try simp only [llc, lln, lna, lza])) | (show GO _ _ _ _ _ (⟨none, none, _⟩ :: _) _; refine go_st (hk := ?_)) | (show GD _ _ _ _ _ _ _ (⟨none, none, _⟩ :: _) _; refine gd_st (hk := ?_)) | (show GO _ _ _ _ _ (⟨_, some _, _⟩ :: _) _; first | refine go_in (hk := ?_) | refine go_out (hk := ?_) | refine go_void (hk := ?_)) | (show GK _ _ _ _ (blockK _ _ _); refine gk_past rfl ?_) | (show GC _ _ _ _ _ (.cond _ _ _) _; first | refine gc_yes (h1 := ?_) | refine gc_no (h1 := ?_))))
    refine gk_retn rfl fun H' hH => ⟨rfl, ?_⟩
    rw [show (tabS n fun k => nthV vs (rvF 0 n i k)) = vs.take 0 ++ (vs.drop 0).reverse from rv_end .any hn (Nat.zero_le _) (by omega) hi] at hH
    exact hH

theorem pns_inj : ∀ {M N : List (Int × Int)}, pns M = pns N → M = N
  | [], [], _ => rfl
  | [], p :: N, h => by simp [cellsK, pnC] at h
  | p :: M, [], h => by simp [cellsK, pnC] at h
  | p :: M, q :: N, h => by
    simp only [cellsK, pnC, List.cons_append, List.nil_append, List.cons.injEq, AV.int.injEq, true_and] at h
    rw [pns_inj h.2.2, Prod.ext h.1 h.2.1]

def tsL : List (Int × Int) → Int × Int
  | [] => (0, 0)
  | p :: M => (p.1 * p.2 + (tsL M).1, p.2 + (tsL M).2)

theorem tsL_app : ∀ M N : List (Int × Int), tsL (M ++ N) = ((tsL M).1 + (tsL N).1, (tsL M).2 + (tsL N).2)
  | [], N => by simp [tsL]
  | p :: M, N => by rw [List.cons_append, tsL, tsL_app M N, tsL]; simp only [Int.add_assoc]

theorem wn_one {xs ws : List Int} {i : Nat} (h : i < xs.length) : wnL xs ws i (i + 1) = [(nth xs i, nth ws i)] := by
  have h1 : i < (ptL xs ws).length := by rw [ptL_len]; omega
  rw [← ptL_nth (xs := xs) (ys := ws) h, show nthP (ptL xs ws) i = (ptL xs ws)[i] from nthA_of h1]
  unfold wnL
  rw [List.drop_eq_getElem_cons h1, show i + 1 - i = 1 by omega]; rfl

theorem wn_nil (xs ws : List Int) (i : Nat) : wnL xs ws i i = [] := by unfold wnL; rw [Nat.sub_self]; rfl

theorem tsL_wn {xs ws : List Int} {i : Nat} : ∀ {e : Nat}, i ≤ e → e ≤ xs.length → tsL (wnL xs ws i e) = (dotT xs ws e - dotT xs ws i, sumI ws e - sumI ws i)
  | 0, h1, _ => by
    obtain rfl : i = 0 := by omega
    rw [wn_nil]; simp [tsL]
  | e + 1, h1, h2 => by
    rcases Nat.lt_or_ge e i with h3 | h3
    · obtain rfl : i = e + 1 := by omega
      rw [wn_nil]; simp [tsL]
    · rw [← wn_join (m := e) ⟨h3, by omega⟩, tsL_app, tsL_wn h3 (by omega), wn_one (by omega)]
      simp only [tsL, Int.add_zero]
      rw [show dotT xs ws (e + 1) = dotT xs ws e + nth xs e * nth ws e from rfl, show sumI ws (e + 1) = sumI ws e + nth ws e from rfl]
      congr 1 <;> omega

theorem mn_same {xs ws : List Int} {i e i' e' : Nat} (h : wnL xs ws i e = wnL xs ws i' e') (h1 : i ≤ e) (h2 : e ≤ xs.length) (h1' : i' ≤ e') (h2' : e' ≤ xs.length) : mnR xs ws i e = mnR xs ws i' e' := by
  have := tsL_wn (ws := ws) h1 h2
  rw [h, tsL_wn h1' h2'] at this
  simp only [Prod.mk.injEq] at this
  unfold mnR
  rw [this.1, this.2]

theorem mn_vals {H : Heap} {v : AV} {xs ws : List Int} {i e i' e' : Nat} (h : Vals H v 2 (e - i) (pns (wnL xs ws i e))) (h' : Vals H v 2 (e' - i') (pns (wnL xs ws i' e'))) (h1 : i ≤ e) (h2 : e ≤ xs.length) (h1' : i' ≤ e') (h2' : e' ≤ xs.length) : mnR xs ws i e = mnR xs ws i' e' := by
  have g1 := h.row
  rw [h'.row, Option.some.injEq] at g1
  exact (mn_same (pns_inj g1) h1' h2' h1 h2).symm

theorem gc_know {P : Program} {A : Heap} {X : List Nat} {E : List (Nat × AV)} {S : Sig} {c : MC} {Q : Exit → St → Prop} {p : Prop} (h : ∀ m H, SOk A X S m H → p) (hk : p → GC P A X E S c Q) : GC P A X E S c Q := ⟨fun s hf => (hk (h _ _ hf.ok)).g s hf⟩
/- the row of blocks: each with the one ahead of it -/

structure BK where
  id : Nat
  k : Kd
  v : AV
  s : Nat
  e : Nat

def aheadV : List BK → AV
  | [] => .nilPtr
  | b :: _ => .ptr b.id 0

theorem ahead_one (r : List BK) : OneC (aheadV r) := by cases r <;> exact ⟨rfl, rfl⟩

def stkS (xs ws : List Int) : List BK → Sig
  | [] => []
  | b :: r => ⟨.cell, .ptr b.id 0, 2, 1, [b.v, aheadV r]⟩ :: ⟨b.k, b.v, 2, b.e - b.s, pns (wnL xs ws b.s b.e)⟩ :: stkS xs ws r

def BKok (b : BK) : Prop := b.k = .rw ∨ (b.k = .ro ∧ ∃ id off, b.v = .slice id off (b.e - b.s) (some (b.e - b.s)) 2)

theorem BKok.kd {b : BK} (h : BKok b) : b.k = .rw ∨ b.k = .ro := h.imp (fun h => h) fun h => h.1

def stkOk : List BK → Nat → Prop
  | [], e => e = 0
  | b :: r, e => b.e = e ∧ b.s < e ∧ BKok b ∧ stkOk r b.s

theorem pairs_ap {fs : List (List Nat × List Nat)} {i j a k : Nat} {f t : List Nat} {r : List (Nat × Nat)} (hi : fs[i]? = some ([a], [])) (hj : fs[j]? = some (f, k :: t)) (h1 : a ≠ k) (h2 : a ∉ t) (hr : pairsOk fs r) : pairsOk fs ((i, j) :: r) :=
  pairs_one hi hj (by simp) (fun id h3 h4 => by
    simp only [List.mem_singleton] at h4; subst h4
    rcases List.mem_cons.1 h3 with h3 | h3
    · exact h1 h3
    · exact h2 h3) hr

theorem gd4_app {P : Program} {Qt : FuncId → List AV → Option AV} {base k : Nat} {A : Heap} {X : List Nat} {E : List (Nat × AV)} {S : Sig} {acc : List (List Nat × List Nat)} {prs : List (Nat × Nat)} {C : List (List Nat × List Nat) → Prop} {K : St → Prop} {r : List MI} {d es bytes : Nat} {v w : AV} {x y : MX} {N : AV → Sig} (hx : evE E x = some v) (hy : evE E y = some w) (hs : Stp A X E S (.app x y es bytes) (New N)) (hk : ∀ u, GD4 P Qt base (k + 1) A X ((d, u) :: E) (N u) (acc ++ [(vid v ++ vid w, (base + k) :: vid v)]) prs r C K) : GD4 P Qt base k A X E S acc prs (⟨some d, none, .app x y es bytes⟩ :: r) C K := by
  refine ⟨fun s m hE hS hm => ?_⟩
  obtain ⟨v', S'', H', m', rfl, h2, h3, h4, h5, h6⟩ := hs.stp s.τ s.H m (base + k) hE hS hm
  have hd0 : dstep P Qt (base + k) ⟨some d, none, (.app x y es bytes)⟩ s = mstep (base + k) s.τ s.H (.app x y es bytes) := dstep_plain2 rfl
  have hf : foot s.τ (.app x y es bytes) = vid v ++ vid w := by simp only [foot, ev_of hE hx, ev_of hE hy]
  have ht : touch (base + k) s.τ (.app x y es bytes) = (base + k) :: vid v := by simp only [touch, ev_of hE hx]
  simp only [dopsC, hd0, h2, hf, ht]
  exact (hk v').g _ m' (look_cons hE d _) h3 (by omega)

theorem gd4_know {P : Program} {Qt : FuncId → List AV → Option AV} {base k : Nat} {A : Heap} {X : List Nat} {E : List (Nat × AV)} {S : Sig} {acc : List (List Nat × List Nat)} {prs : List (Nat × Nat)} {C : List (List Nat × List Nat) → Prop} {K : St → Prop} {l : List MI} {p : Prop} (h : ∀ m H, SOk A X S m H → p) (hk : p → GD4 P Qt base k A X E S acc prs l C K) : GD4 P Qt base k A X E S acc prs l C K :=
  ⟨fun s m hE hS hm => (hk (h _ _ hS)).g s m hE hS hm⟩

theorem vid_slice {z : AV} {id : Nat} (hz : z.isSlice = true) (h : id ∈ vid z) : z.bid = some id := by
  cases z <;> simp [AV.isSlice] at hz <;> simp [vid] at h
  simp [AV.bid, h]

theorem stp_peqN {A : Heap} {X : List Nat} {E : List (Nat × AV)} {S : Sig} {x y : MX} (hx : evE E x = some .nilPtr) (hy : evE E y = some .nilPtr) : Stp A X E S (.peq true x y) (Is (.bool false) S) := stp_peqnn (ng := true) hx hy

theorem putBehind_ok {A : Heap} {X : List Nat} {S0 : Sig} {H : Heap} {w : AV} {xs ws : List Int} {e : Nat} {st : List BK} (hL : Loads xs ws) (he : e < xs.length) (hS : SOk A X (⟨.ro, w, 2, e + 1 - e, pns (wnL xs ws e (e + 1))⟩ :: (stkS xs ws st ++ S0)) H.size H) (hw : ∃ id off, w = .slice id off (e + 1 - e) (some (e + 1 - e)) 2) (hok : stkOk st e) :
    ACalls Try.prog fn_impl_putBehind [aheadV st, w] H fun r H' => ∃ st' : List BK, r = aheadV st' ∧ SOk A X (stkS xs ws st' ++ S0) H'.size H' ∧ (stkOk st' (e + 1) ∧ st'.map (·.s) = popS (rS xs ws) (rW ws) (e + 1) (e :: st.map (·.s))) := by
  refine hc_goS code_impl_putBehind hS (by simp) ?_
  unfold mc_impl_putBehind
  -- alt: refine gq_is rfl (stp_peqN rfl rfl) ?_
  have hwo : OneC w := by obtain ⟨i, o, rfl⟩ := hw; exact ⟨rfl, rfl⟩
  have hao := ahead_one st
  have hn := hL.2.2.2.2
  (repeat (first | refine gst (hk := ?_) | (with_reducible refine gc_drq ?_; intro _) | (with_reducible first | (refine gc_drw (h := ?_); intro _) | (refine gc_drw2 (h := ?_); intro _)) | (refine gq_is rfl (stp_peqN rfl rfl) ?_) | (show GO _ _ _ _ _ (⟨some _, none, _⟩ :: _) _; first | refine go_op (hk := ?_) | (refine go_nw (hk := ?_); intro u; try simp only [llc, lln, lna, lza]) | (refine go_np (hk := ?_); intro id)) | (show GQ _ _ _ _ _ _ _ (⟨some _, none, _⟩ :: _) _; first | refine gq_op (hk := ?_) | (refine gq_nw (hk := ?_); intro u; try simp only [llc, lln, lna, lza])) | (show GD _ _ _ _ _ _ _ (⟨some _, none, _⟩ :: _) _; first | refine gd_op (hk := ?_) | (refine gd_nw (hk := ?_); intro u; try simp only [llc, lln, lna, lza])) | (show GD2 _ _ _ _ _ _ _ _ _ _ _ _ _ _; first | refine gd2_nil rfl ?_ | refine gd2_op (hk := ?_) | (refine gd2_nw (hk := ?_); intro u; try simp only [llc, lln, lna, lza]) | refine gd2_l (hk := ?_) | refine gd2_lp (hk := ?_) | (refine gd2_newp (hk := ?_); intro id) | refine gd2_st (hk := ?_) | (refine gd2_bsl rfl rfl ?_; intro u; try simp only [llc, lln, lna, lza]) | (refine gd2_a (hk := ?_); intro u; try simp only [llc, lln, lna, lza])) | (show GO _ _ _ _ _ (⟨none, none, _⟩ :: _) _; refine go_st (hk := ?_)) | (show GD _ _ _ _ _ _ _ (⟨none, none, _⟩ :: _) _; refine gd_st (hk := ?_)) | (show GO _ _ _ _ _ (⟨_, some _, _⟩ :: _) _; first | refine go_in (hk := ?_) | refine go_out (hk := ?_) | refine go_void (hk := ?_)) | (show GQ _ _ _ _ _ _ _ (⟨_, some _, _⟩ :: _) _; first | refine gq_in (hk := ?_) | refine gq_out (hk := ?_) | refine gq_void (hk := ?_)) | (show GK _ _ _ _ (blockK _ _ _); refine gk_past rfl ?_) | (show GC _ _ _ _ _ (.cond _ _ _) _; first | refine gc_yes (h1 := ?_) | refine gc_no (h1 := ?_))))
  refine go_is rfl (stp_bld (l := [(0, 1, w), (1, 1, aheadV st)]) (cs := [w, aheadV st]) rfl (by simp [fillL, hwo.1, hwo.2, hao.1, hao.2])) ?_
  refine go_newp rfl (stp_box (cs := [w, aheadV st]) rfl rfl (by simp [hwo.2, hao.2])) ?_
  intro i8
  (repeat (first | refine gst (hk := ?_) | (with_reducible first | (refine gc_drw (h := ?_); intro _) | (refine gc_drw2 (h := ?_); intro _)) | (refine gq_is rfl (stp_peqN rfl rfl) ?_) | (show GO _ _ _ _ _ (⟨some _, none, _⟩ :: _) _; first | refine go_op (hk := ?_) | (refine go_nw (hk := ?_); intro u; try simp only [llc, lln, lna, lza]) | (refine go_np (hk := ?_); intro id)) | (show GQ _ _ _ _ _ _ _ (⟨some _, none, _⟩ :: _) _; first | refine gq_op (hk := ?_) | (refine gq_nw (hk := ?_); intro u; try simp only [llc, lln, lna, lza])) | (show GD _ _ _ _ _ _ _ (⟨some _, none, _⟩ :: _) _; first | refine gd_op (hk := ?_) | (refine gd_nw (hk := ?_); intro u; try simp only [llc, lln, lna, lza])) | (show GD2 _ _ _ _ _ _ _ _ _ _ _ _ _ _; first | refine gd2_nil rfl ?_ | refine gd2_op (hk := ?_) | (refine gd2_nw (hk := ?_); intro u; try simp only [llc, lln, lna, lza]) | refine gd2_l (hk := ?_) | refine gd2_lp (hk := ?_) | (refine gd2_newp (hk := ?_); intro id) | refine gd2_st (hk := ?_) | (refine gd2_bsl rfl rfl ?_; intro u; try simp only [llc, lln, lna, lza]) | (refine gd2_a (hk := ?_); intro u; try simp only [llc, lln, lna, lza])) | (show GO _ _ _ _ _ (⟨none, none, _⟩ :: _) _; refine go_st (hk := ?_)) | (show GD _ _ _ _ _ _ _ (⟨none, none, _⟩ :: _) _; refine gd_st (hk := ?_)) | (show GO _ _ _ _ _ (⟨_, some _, _⟩ :: _) _; first | refine go_in (hk := ?_) | refine go_out (hk := ?_) | refine go_void (hk := ?_)) | (show GQ _ _ _ _ _ _ _ (⟨_, some _, _⟩ :: _) _; first | refine gq_in (hk := ?_) | refine gq_out (hk := ?_) | refine gq_void (hk := ?_)) | (show GK _ _ _ _ (blockK _ _ _); refine gk_past rfl ?_) | (show GC _ _ _ _ _ (.cond _ _ _) _; first | refine gc_yes (h1 := ?_) | refine gc_no (h1 := ?_))))
  refine gc_loop (γ := List BK) (fun s => [(0, aheadV s)]) (fun s => stkS xs ws s ++ S0) (fun s => s ≠ [] ∧ stkOk s (e + 1) ∧ popS (rS xs ws) (rW ws) (e + 1) (s.map (·.s)) = popS (rS xs ws) (rW ws) (e + 1) (e :: st.map (·.s))) (fun s => s.length) (⟨i8, .ro, w, e, e + 1⟩ :: st) ⟨by simp, ⟨rfl, by dsimp only; omega, .inr ⟨rfl, hw⟩, hok⟩, rfl⟩ (hS := sub_refl _) (hb := ?_)
  rintro st1 ⟨hne, hok1, hp1⟩ I ν μ hk
  match st1, hne with
  | [⟨bi, bk, bv, bs, be⟩], _ =>
    simp only [stkOk] at hok1
    obtain ⟨rfl, h2, h3, h4⟩ := hok1
    refine gc_keep [(0, .ptr bi 0)] (⟨.cell, .ptr bi 0, 2, 1, [bv, .nilPtr]⟩ :: ⟨bk, bv, 2, e + 1 - bs, pns (wnL xs ws bs (e + 1))⟩ :: S0) (by (repeat (refine Cov.cons (by exact rfl) ?_)); exact Cov.nil) (sub_refl _) ?_
    (repeat (first | refine gst (hk := ?_) | (with_reducible first | (refine gc_drw (h := ?_); intro _) | (refine gc_drw2 (h := ?_); intro _)) | (refine gq_is rfl (stp_peqN rfl rfl) ?_) | (show GO _ _ _ _ _ (⟨some _, none, _⟩ :: _) _; first | refine go_op (hk := ?_) | (refine go_nw (hk := ?_); intro u; try simp only [llc, lln, lna, lza]) | (refine go_np (hk := ?_); intro id)) | (show GQ _ _ _ _ _ _ _ (⟨some _, none, _⟩ :: _) _; first | refine gq_op (hk := ?_) | (refine gq_nw (hk := ?_); intro u; try simp only [llc, lln, lna, lza])) | (show GD _ _ _ _ _ _ _ (⟨some _, none, _⟩ :: _) _; first | refine gd_op (hk := ?_) | (refine gd_nw (hk := ?_); intro u; try simp only [llc, lln, lna, lza])) | (show GD2 _ _ _ _ _ _ _ _ _ _ _ _ _ _; first | refine gd2_nil rfl ?_ | refine gd2_op (hk := ?_) | (refine gd2_nw (hk := ?_); intro u; try simp only [llc, lln, lna, lza]) | refine gd2_l (hk := ?_) | refine gd2_lp (hk := ?_) | (refine gd2_newp (hk := ?_); intro id) | refine gd2_st (hk := ?_) | (refine gd2_bsl rfl rfl ?_; intro u; try simp only [llc, lln, lna, lza]) | (refine gd2_a (hk := ?_); intro u; try simp only [llc, lln, lna, lza])) | (show GO _ _ _ _ _ (⟨none, none, _⟩ :: _) _; refine go_st (hk := ?_)) | (show GD _ _ _ _ _ _ _ (⟨none, none, _⟩ :: _) _; refine gd_st (hk := ?_)) | (show GO _ _ _ _ _ (⟨_, some _, _⟩ :: _) _; first | refine go_in (hk := ?_) | refine go_out (hk := ?_) | refine go_void (hk := ?_)) | (show GQ _ _ _ _ _ _ _ (⟨_, some _, _⟩ :: _) _; first | refine gq_in (hk := ?_) | refine gq_out (hk := ?_) | refine gq_void (hk := ?_)) | (show GK _ _ _ _ (blockK _ _ _); refine gk_past rfl ?_) | (show GC _ _ _ _ _ (.cond _ _ _) _; first | refine gc_yes (h1 := ?_) | refine gc_no (h1 := ?_))))
    refine gc_drqt (fun _ _ _ => none) (fun _ _ => fun f args r h => by cases h) (fun H0 => ?_)
    (repeat (first | refine gst (hk := ?_) | (with_reducible first | (refine gc_drw (h := ?_); intro _) | (refine gc_drw2 (h := ?_); intro _)) | (refine gq_is rfl (stp_peqN rfl rfl) ?_) | (show GO _ _ _ _ _ (⟨some _, none, _⟩ :: _) _; first | refine go_op (hk := ?_) | (refine go_nw (hk := ?_); intro u; try simp only [llc, lln, lna, lza]) | (refine go_np (hk := ?_); intro id)) | (show GQ _ _ _ _ _ _ _ (⟨some _, none, _⟩ :: _) _; first | refine gq_op (hk := ?_) | (refine gq_nw (hk := ?_); intro u; try simp only [llc, lln, lna, lza])) | (show GD _ _ _ _ _ _ _ (⟨some _, none, _⟩ :: _) _; first | refine gd_op (hk := ?_) | (refine gd_nw (hk := ?_); intro u; try simp only [llc, lln, lna, lza])) | (show GD2 _ _ _ _ _ _ _ _ _ _ _ _ _ _; first | refine gd2_nil rfl ?_ | refine gd2_op (hk := ?_) | (refine gd2_nw (hk := ?_); intro u; try simp only [llc, lln, lna, lza]) | refine gd2_l (hk := ?_) | refine gd2_lp (hk := ?_) | (refine gd2_newp (hk := ?_); intro id) | refine gd2_st (hk := ?_) | (refine gd2_bsl rfl rfl ?_; intro u; try simp only [llc, lln, lna, lza]) | (refine gd2_a (hk := ?_); intro u; try simp only [llc, lln, lna, lza])) | (show GO _ _ _ _ _ (⟨none, none, _⟩ :: _) _; refine go_st (hk := ?_)) | (show GD _ _ _ _ _ _ _ (⟨none, none, _⟩ :: _) _; refine gd_st (hk := ?_)) | (show GO _ _ _ _ _ (⟨_, some _, _⟩ :: _) _; first | refine go_in (hk := ?_) | refine go_out (hk := ?_) | refine go_void (hk := ?_)) | (show GQ _ _ _ _ _ _ _ (⟨_, some _, _⟩ :: _) _; first | refine gq_in (hk := ?_) | refine gq_out (hk := ?_) | refine gq_void (hk := ?_)) | (show GK _ _ _ _ (blockK _ _ _); refine gk_past rfl ?_) | (show GC _ _ _ _ _ (.cond _ _ _) _; first | refine gc_yes (h1 := ?_) | refine gc_no (h1 := ?_))))
    refine gk_ret rfl fun H' hH => ⟨[⟨bi, bk, bv, bs, e + 1⟩], rfl, hH, ⟨rfl, h2, h3, h4⟩, ?_⟩
    rw [← hp1]; rfl
  | ⟨bi, bk, bv, bs, be⟩ :: ⟨ci, ck, cv, cs, ce⟩ :: r, _ =>
    simp only [stkOk] at hok1
    obtain ⟨rfl, h2, h3, rfl, h5, h6, h7⟩ := hok1
    refine gc_keep [(0, .ptr bi 0)] (⟨.cell, .ptr bi 0, 2, 1, [bv, .ptr ci 0]⟩ :: ⟨bk, bv, 2, e + 1 - ce, pns (wnL xs ws ce (e + 1))⟩ :: ⟨.cell, .ptr ci 0, 2, 1, [cv, aheadV r]⟩ :: ⟨ck, cv, 2, ce - cs, pns (wnL xs ws cs ce)⟩ :: (stkS xs ws r ++ S0)) (by (repeat (refine Cov.cons (by exact rfl) ?_)); exact Cov.nil) (sub_refl _) ?_
    have k3 := h3.kd
    have k6 := h6.kd
    simp only at k3 k6
    refine gc_know (p := [bv] ≠ [cv] ∨ frV (mnR xs ws ce (e + 1)) = frV (mnR xs ws cs ce)) (fun m H hH => ?_) (fun hdif => ?_)
    · by_cases hv : [bv] = [cv]
      · injection hv with hv
        refine .inr (congrArg frV (mn_vals (v := bv) (hH.valsA (.tail (has_k k3))) ?_ (by omega) (by omega) (by omega) (by omega)))
        rw [hv]
        exact hH.valsA (.tail (.tail (.tail (has_k k6))))
      · exact .inl hv
    (repeat (first | refine gst (hk := ?_) | (with_reducible first | (refine gc_drw (h := ?_); intro _) | (refine gc_drw2 (h := ?_); intro _)) | (refine gq_is rfl (stp_peqN rfl rfl) ?_) | (show GO _ _ _ _ _ (⟨some _, none, _⟩ :: _) _; first | refine go_op (hk := ?_) | (refine go_nw (hk := ?_); intro u; try simp only [llc, lln, lna, lza]) | (refine go_np (hk := ?_); intro id)) | (show GQ _ _ _ _ _ _ _ (⟨some _, none, _⟩ :: _) _; first | refine gq_op (hk := ?_) | (refine gq_nw (hk := ?_); intro u; try simp only [llc, lln, lna, lza])) | (show GD _ _ _ _ _ _ _ (⟨some _, none, _⟩ :: _) _; first | refine gd_op (hk := ?_) | (refine gd_nw (hk := ?_); intro u; try simp only [llc, lln, lna, lza])) | (show GD2 _ _ _ _ _ _ _ _ _ _ _ _ _ _; first | refine gd2_nil rfl ?_ | refine gd2_op (hk := ?_) | (refine gd2_nw (hk := ?_); intro u; try simp only [llc, lln, lna, lza]) | refine gd2_l (hk := ?_) | refine gd2_lp (hk := ?_) | (refine gd2_newp (hk := ?_); intro id) | refine gd2_st (hk := ?_) | (refine gd2_bsl rfl rfl ?_; intro u; try simp only [llc, lln, lna, lza]) | (refine gd2_a (hk := ?_); intro u; try simp only [llc, lln, lna, lza])) | (show GO _ _ _ _ _ (⟨none, none, _⟩ :: _) _; refine go_st (hk := ?_)) | (show GD _ _ _ _ _ _ _ (⟨none, none, _⟩ :: _) _; refine gd_st (hk := ?_)) | (show GO _ _ _ _ _ (⟨_, some _, _⟩ :: _) _; first | refine go_in (hk := ?_) | refine go_out (hk := ?_) | refine go_void (hk := ?_)) | (show GQ _ _ _ _ _ _ _ (⟨_, some _, _⟩ :: _) _; first | refine gq_in (hk := ?_) | refine gq_out (hk := ?_) | refine gq_void (hk := ?_)) | (show GK _ _ _ _ (blockK _ _ _); refine gk_past rfl ?_) | (show GC _ _ _ _ _ (.cond _ _ _) _; first | refine gc_yes (h1 := ?_) | refine gc_no (h1 := ?_))))
    refine gc_drqt (fun _ => qtTab [(fn_impl_meanOf, dTwo [cv] (frV (mnR xs ws cs ce)) [bv] (frV (mnR xs ws ce (e + 1)))), (fn_impl_Frac_compare, dOne [frV (mnR xs ws cs ce), frV (mnR xs ws ce (e + 1))] (.int .i64 (cmR (mnR xs ws cs ce) (mnR xs ws ce (e + 1)))))]) (fun H hH => qtTab_cons (dTwo_ok code_impl_meanOf.callable (meanOf_ok (hH.valsA (.tail (.tail (.tail (has_k k6))))) hL (by omega) (by omega)) (meanOf_ok (hH.valsA (.tail (has_k k3))) hL (by omega) (by omega))) (qtTab_cons (dOne_ok code_impl_Frac_compare.callable (implCompare_ok (hL.fits (by omega) (by omega) (by omega) (by omega)))) qtTab_nil)) (fun H0 => ?_)
    (repeat (first | refine gst (hk := ?_) | (with_reducible first | (refine gc_drw (h := ?_); intro _) | (refine gc_drw2 (h := ?_); intro _)) | (refine gq_is rfl (stp_peqN rfl rfl) ?_) | (show GO _ _ _ _ _ (⟨some _, none, _⟩ :: _) _; first | refine go_op (hk := ?_) | (refine go_nw (hk := ?_); intro u; try simp only [llc, lln, lna, lza]) | (refine go_np (hk := ?_); intro id)) | (show GQ _ _ _ _ _ _ _ (⟨some _, none, _⟩ :: _) _; first | refine gq_op (hk := ?_) | (refine gq_nw (hk := ?_); intro u; try simp only [llc, lln, lna, lza])) | (show GD _ _ _ _ _ _ _ (⟨some _, none, _⟩ :: _) _; first | refine gd_op (hk := ?_) | (refine gd_nw (hk := ?_); intro u; try simp only [llc, lln, lna, lza])) | (show GD2 _ _ _ _ _ _ _ _ _ _ _ _ _ _; first | refine gd2_nil rfl ?_ | refine gd2_op (hk := ?_) | (refine gd2_nw (hk := ?_); intro u; try simp only [llc, lln, lna, lza]) | refine gd2_l (hk := ?_) | refine gd2_lp (hk := ?_) | (refine gd2_newp (hk := ?_); intro id) | refine gd2_st (hk := ?_) | (refine gd2_bsl rfl rfl ?_; intro u; try simp only [llc, lln, lna, lza]) | (refine gd2_a (hk := ?_); intro u; try simp only [llc, lln, lna, lza])) | (show GO _ _ _ _ _ (⟨none, none, _⟩ :: _) _; refine go_st (hk := ?_)) | (show GD _ _ _ _ _ _ _ (⟨none, none, _⟩ :: _) _; refine gd_st (hk := ?_)) | (show GO _ _ _ _ _ (⟨_, some _, _⟩ :: _) _; first | refine go_in (hk := ?_) | refine go_out (hk := ?_) | refine go_void (hk := ?_)) | (show GQ _ _ _ _ _ _ _ (⟨_, some _, _⟩ :: _) _; first | refine gq_in (hk := ?_) | refine gq_out (hk := ?_) | refine gq_void (hk := ?_)) | (show GK _ _ _ _ (blockK _ _ _); refine gk_past rfl ?_) | (show GC _ _ _ _ _ (.cond _ _ _) _; first | refine gc_yes (h1 := ?_) | refine gc_no (h1 := ?_))))
    refine gq_call rfl (fun _ => dTwo_fst) ?_
    (repeat (first | refine gst (hk := ?_) | (with_reducible first | (refine gc_drw (h := ?_); intro _) | (refine gc_drw2 (h := ?_); intro _)) | (refine gq_is rfl (stp_peqN rfl rfl) ?_) | (show GO _ _ _ _ _ (⟨some _, none, _⟩ :: _) _; first | refine go_op (hk := ?_) | (refine go_nw (hk := ?_); intro u; try simp only [llc, lln, lna, lza]) | (refine go_np (hk := ?_); intro id)) | (show GQ _ _ _ _ _ _ _ (⟨some _, none, _⟩ :: _) _; first | refine gq_op (hk := ?_) | (refine gq_nw (hk := ?_); intro u; try simp only [llc, lln, lna, lza])) | (show GD _ _ _ _ _ _ _ (⟨some _, none, _⟩ :: _) _; first | refine gd_op (hk := ?_) | (refine gd_nw (hk := ?_); intro u; try simp only [llc, lln, lna, lza])) | (show GD2 _ _ _ _ _ _ _ _ _ _ _ _ _ _; first | refine gd2_nil rfl ?_ | refine gd2_op (hk := ?_) | (refine gd2_nw (hk := ?_); intro u; try simp only [llc, lln, lna, lza]) | refine gd2_l (hk := ?_) | refine gd2_lp (hk := ?_) | (refine gd2_newp (hk := ?_); intro id) | refine gd2_st (hk := ?_) | (refine gd2_bsl rfl rfl ?_; intro u; try simp only [llc, lln, lna, lza]) | (refine gd2_a (hk := ?_); intro u; try simp only [llc, lln, lna, lza])) | (show GO _ _ _ _ _ (⟨none, none, _⟩ :: _) _; refine go_st (hk := ?_)) | (show GD _ _ _ _ _ _ _ (⟨none, none, _⟩ :: _) _; refine gd_st (hk := ?_)) | (show GO _ _ _ _ _ (⟨_, some _, _⟩ :: _) _; first | refine go_in (hk := ?_) | refine go_out (hk := ?_) | refine go_void (hk := ?_)) | (show GQ _ _ _ _ _ _ _ (⟨_, some _, _⟩ :: _) _; first | refine gq_in (hk := ?_) | refine gq_out (hk := ?_) | refine gq_void (hk := ?_)) | (show GK _ _ _ _ (blockK _ _ _); refine gk_past rfl ?_) | (show GC _ _ _ _ _ (.cond _ _ _) _; first | refine gc_yes (h1 := ?_) | refine gc_no (h1 := ?_))))
    refine gq_call rfl (fun _ => dTwo_snd hdif) ?_
    (repeat (first | refine gst (hk := ?_) | (with_reducible first | (refine gc_drw (h := ?_); intro _) | (refine gc_drw2 (h := ?_); intro _)) | (refine gq_is rfl (stp_peqN rfl rfl) ?_) | (show GO _ _ _ _ _ (⟨some _, none, _⟩ :: _) _; first | refine go_op (hk := ?_) | (refine go_nw (hk := ?_); intro u; try simp only [llc, lln, lna, lza]) | (refine go_np (hk := ?_); intro id)) | (show GQ _ _ _ _ _ _ _ (⟨some _, none, _⟩ :: _) _; first | refine gq_op (hk := ?_) | (refine gq_nw (hk := ?_); intro u; try simp only [llc, lln, lna, lza])) | (show GD _ _ _ _ _ _ _ (⟨some _, none, _⟩ :: _) _; first | refine gd_op (hk := ?_) | (refine gd_nw (hk := ?_); intro u; try simp only [llc, lln, lna, lza])) | (show GD2 _ _ _ _ _ _ _ _ _ _ _ _ _ _; first | refine gd2_nil rfl ?_ | refine gd2_op (hk := ?_) | (refine gd2_nw (hk := ?_); intro u; try simp only [llc, lln, lna, lza]) | refine gd2_l (hk := ?_) | refine gd2_lp (hk := ?_) | (refine gd2_newp (hk := ?_); intro id) | refine gd2_st (hk := ?_) | (refine gd2_bsl rfl rfl ?_; intro u; try simp only [llc, lln, lna, lza]) | (refine gd2_a (hk := ?_); intro u; try simp only [llc, lln, lna, lza])) | (show GO _ _ _ _ _ (⟨none, none, _⟩ :: _) _; refine go_st (hk := ?_)) | (show GD _ _ _ _ _ _ _ (⟨none, none, _⟩ :: _) _; refine gd_st (hk := ?_)) | (show GO _ _ _ _ _ (⟨_, some _, _⟩ :: _) _; first | refine go_in (hk := ?_) | refine go_out (hk := ?_) | refine go_void (hk := ?_)) | (show GQ _ _ _ _ _ _ _ (⟨_, some _, _⟩ :: _) _; first | refine gq_in (hk := ?_) | refine gq_out (hk := ?_) | refine gq_void (hk := ?_)) | (show GK _ _ _ _ (blockK _ _ _); refine gk_past rfl ?_) | (show GC _ _ _ _ _ (.cond _ _ _) _; first | refine gc_yes (h1 := ?_) | refine gc_no (h1 := ?_))))
    refine gq_call rfl (fun _ => dOne_is) ?_
    (repeat (first | refine gst (hk := ?_) | (with_reducible first | (refine gc_drw (h := ?_); intro _) | (refine gc_drw2 (h := ?_); intro _)) | (refine gq_is rfl (stp_peqN rfl rfl) ?_) | (show GO _ _ _ _ _ (⟨some _, none, _⟩ :: _) _; first | refine go_op (hk := ?_) | (refine go_nw (hk := ?_); intro u; try simp only [llc, lln, lna, lza]) | (refine go_np (hk := ?_); intro id)) | (show GQ _ _ _ _ _ _ _ (⟨some _, none, _⟩ :: _) _; first | refine gq_op (hk := ?_) | (refine gq_nw (hk := ?_); intro u; try simp only [llc, lln, lna, lza])) | (show GD _ _ _ _ _ _ _ (⟨some _, none, _⟩ :: _) _; first | refine gd_op (hk := ?_) | (refine gd_nw (hk := ?_); intro u; try simp only [llc, lln, lna, lza])) | (show GD2 _ _ _ _ _ _ _ _ _ _ _ _ _ _; first | refine gd2_nil rfl ?_ | refine gd2_op (hk := ?_) | (refine gd2_nw (hk := ?_); intro u; try simp only [llc, lln, lna, lza]) | refine gd2_l (hk := ?_) | refine gd2_lp (hk := ?_) | (refine gd2_newp (hk := ?_); intro id) | refine gd2_st (hk := ?_) | (refine gd2_bsl rfl rfl ?_; intro u; try simp only [llc, lln, lna, lza]) | (refine gd2_a (hk := ?_); intro u; try simp only [llc, lln, lna, lza])) | (show GO _ _ _ _ _ (⟨none, none, _⟩ :: _) _; refine go_st (hk := ?_)) | (show GD _ _ _ _ _ _ _ (⟨none, none, _⟩ :: _) _; refine gd_st (hk := ?_)) | (show GO _ _ _ _ _ (⟨_, some _, _⟩ :: _) _; first | refine go_in (hk := ?_) | refine go_out (hk := ?_) | refine go_void (hk := ?_)) | (show GQ _ _ _ _ _ _ _ (⟨_, some _, _⟩ :: _) _; first | refine gq_in (hk := ?_) | refine gq_out (hk := ?_) | refine gq_void (hk := ?_)) | (show GK _ _ _ _ (blockK _ _ _); refine gk_past rfl ?_) | (show GC _ _ _ _ _ (.cond _ _ _) _; first | refine gc_yes (h1 := ?_) | refine gc_no (h1 := ?_))))
    refine gc_cond rfl (fun hc => ?_) (fun hc => ?_)
    · have hge : ¬ mnA (rS xs ws) (rW ws) cs ce < mnA (rS xs ws) (rW ws) ce (e + 1) := by
        rw [mnR_mnA, mnR_mnA]
        intro hlt
        have := cmR_neg.2 hlt
        omega
      repeat (refine gst (hk := ?_))
      rcases h6 with h6 | ⟨h6, iw, ow, h8⟩
      · simp only at h6
        subst h6
        refine gc_drw4 (fun _ _ => none) (fun H0 hH0 => ?_)
        repeat (refine gd4_op (hk := ?_))
        refine gd4_ld (u := .ptr bi (0 + 1)) rfl (stp_ldc rfl (by exact Sel.auto) rfl rfl) ?_
        repeat (refine gd4_op (hk := ?_))
        refine gd4_ld (u := .ptr bi (0 + 1)) rfl (stp_ldc rfl (by exact Sel.auto) rfl rfl) ?_
        repeat (refine gd4_op (hk := ?_))
        refine gd4_ld (u := .ptr ci (0 + 0)) rfl (stp_ldc rfl (by exact Sel.auto) rfl rfl) ?_
        repeat (refine gd4_op (hk := ?_))
        refine gd4_ld (u := .ptr bi (0 + 0)) rfl (stp_ldc rfl (by exact Sel.auto) rfl rfl) ?_
        refine gd4_app rfl rfl (stp_app (v := cv) (es := 2) (n := ce - cs) (m' := e + 1 - ce) (cs := pns (wnL xs ws cs ce)) (news := pns (wnL xs ws ce (e + 1))) rfl rfl (by exact Sel.auto) (.tail (has_k k3)) (ck_one cels_pn _) (by omega) (by omega) (by omega)) ?_
        intro u
        rw [← ck_app, wn_join ⟨by omega, by omega⟩, show ce - cs + (e + 1 - ce) = e + 1 - cs by omega]
        refine gd4_know (p := OneC u) (fun m H hH => one_slice (hH.valsA .rw)) (fun hu => ?_)
        repeat (refine gd4_op (hk := ?_))
        refine gd4_st (u := .ptr ci (0 + 0)) rfl (stp_st20 rfl rfl hu.1 hu.2 (by exact Sel.auto)) ?_
        have hb1 := (hH0.ch _ (by exact List.mem_cons_self)).1 bi rfl
        have hb2 := (List.pairwise_cons.1 hH0.ap).1 ⟨.rw, cv, 2, ce - cs, pns (wnL xs ws cs ce)⟩ (by simp) (.inl rfl) bi rfl
        have hsl := (hH0.valsA (v := cv) (.tail (.tail (.tail (has_k k6))))).sl
        refine gd4_nil (pairs_ap (a := bi) (k := H0.size + 15) (t := vid cv) rfl rfl (by omega) (fun h => hb2 (vid_slice hsl h)) trivial) (fun H _ f args r h => by cases h) ?_
        (repeat (first | refine gst (hk := ?_) | (with_reducible first | (refine gc_drw (h := ?_); intro _) | (refine gc_drw2 (h := ?_); intro _)) | (refine gq_is rfl (stp_peqN rfl rfl) ?_) | (show GO _ _ _ _ _ (⟨some _, none, _⟩ :: _) _; first | refine go_op (hk := ?_) | (refine go_nw (hk := ?_); intro u; try simp only [llc, lln, lna, lza]) | (refine go_np (hk := ?_); intro id)) | (show GQ _ _ _ _ _ _ _ (⟨some _, none, _⟩ :: _) _; first | refine gq_op (hk := ?_) | (refine gq_nw (hk := ?_); intro u; try simp only [llc, lln, lna, lza])) | (show GD _ _ _ _ _ _ _ (⟨some _, none, _⟩ :: _) _; first | refine gd_op (hk := ?_) | (refine gd_nw (hk := ?_); intro u; try simp only [llc, lln, lna, lza])) | (show GD2 _ _ _ _ _ _ _ _ _ _ _ _ _ _; first | refine gd2_nil rfl ?_ | refine gd2_op (hk := ?_) | (refine gd2_nw (hk := ?_); intro u; try simp only [llc, lln, lna, lza]) | refine gd2_l (hk := ?_) | refine gd2_lp (hk := ?_) | (refine gd2_newp (hk := ?_); intro id) | refine gd2_st (hk := ?_) | (refine gd2_bsl rfl rfl ?_; intro u; try simp only [llc, lln, lna, lza]) | (refine gd2_a (hk := ?_); intro u; try simp only [llc, lln, lna, lza])) | (show GO _ _ _ _ _ (⟨none, none, _⟩ :: _) _; refine go_st (hk := ?_)) | (show GD _ _ _ _ _ _ _ (⟨none, none, _⟩ :: _) _; refine gd_st (hk := ?_)) | (show GO _ _ _ _ _ (⟨_, some _, _⟩ :: _) _; first | refine go_in (hk := ?_) | refine go_out (hk := ?_) | refine go_void (hk := ?_)) | (show GQ _ _ _ _ _ _ _ (⟨_, some _, _⟩ :: _) _; first | refine gq_in (hk := ?_) | refine gq_out (hk := ?_) | refine gq_void (hk := ?_)) | (show GK _ _ _ _ (blockK _ _ _); refine gk_past rfl ?_) | (show GC _ _ _ _ _ (.cond _ _ _) _; first | refine gc_yes (h1 := ?_) | refine gc_no (h1 := ?_))))
        refine gk_next (hk (⟨ci, .rw, u, cs, e + 1⟩ :: r) ⟨by simp, ⟨rfl, by dsimp only; omega, .inl rfl, h7⟩, ?_⟩ (by simp)) (hs := .cons .head (.cons .head (sub_drop (sub_drop (sub_refl _)))))
        rw [← hp1]
        exact (if_neg hge).symm
      · simp only at h6 h8
        subst h6
        subst h8
        refine gc_drw4 (fun _ _ => none) (fun H0 hH0 => ?_)
        repeat (refine gd4_op (hk := ?_))
        refine gd4_ld (u := .ptr bi (0 + 1)) rfl (stp_ldc rfl (by exact Sel.auto) rfl rfl) ?_
        repeat (refine gd4_op (hk := ?_))
        refine gd4_ld (u := .ptr bi (0 + 1)) rfl (stp_ldc rfl (by exact Sel.auto) rfl rfl) ?_
        repeat (refine gd4_op (hk := ?_))
        refine gd4_ld (u := .ptr ci (0 + 0)) rfl (stp_ldc rfl (by exact Sel.auto) rfl rfl) ?_
        repeat (refine gd4_op (hk := ?_))
        refine gd4_ld (u := .ptr bi (0 + 0)) rfl (stp_ldc rfl (by exact Sel.auto) rfl rfl) ?_
        refine gd4_app rfl rfl (stp_appW (es := 2) (n := ce - cs) (m' := e + 1 - ce) (cs := pns (wnL xs ws cs ce)) (news := pns (wnL xs ws ce (e + 1))) rfl rfl (by exact Has.auto) (.tail (has_k k3)) (by omega) (by omega) (ck_one cels_pn _) (by omega) (by omega) (by omega)) ?_
        intro u
        rw [← ck_app, wn_join ⟨by omega, by omega⟩, show ce - cs + (e + 1 - ce) = e + 1 - cs by omega]
        refine gd4_know (p := OneC u) (fun m H hH => one_slice (hH.valsA .rw)) (fun hu => ?_)
        repeat (refine gd4_op (hk := ?_))
        refine gd4_st (u := .ptr ci (0 + 0)) rfl (stp_st20 rfl rfl hu.1 hu.2 (by exact Sel.auto)) ?_
        have hb1 := (hH0.ch _ (by exact List.mem_cons_self)).1 bi rfl
        have hb2 := (List.pairwise_cons.1 hH0.ap).1 ⟨.ro, .slice iw ow (ce - cs) (some (ce - cs)) 2, 2, ce - cs, pns (wnL xs ws cs ce)⟩ (by simp) (.inl rfl) bi rfl
        have hsl := (hH0.valsA  (.tail (.tail (.tail (has_k k6))))).sl
        refine gd4_nil (pairs_ap (a := bi) (k := H0.size + 15) (t := [iw]) rfl rfl (by omega) (fun h => hb2 (vid_slice hsl h)) trivial) (fun H _ f args r h => by cases h) ?_
        (repeat (first | refine gst (hk := ?_) | (with_reducible first | (refine gc_drw (h := ?_); intro _) | (refine gc_drw2 (h := ?_); intro _)) | (refine gq_is rfl (stp_peqN rfl rfl) ?_) | (show GO _ _ _ _ _ (⟨some _, none, _⟩ :: _) _; first | refine go_op (hk := ?_) | (refine go_nw (hk := ?_); intro u; try simp only [llc, lln, lna, lza]) | (refine go_np (hk := ?_); intro id)) | (show GQ _ _ _ _ _ _ _ (⟨some _, none, _⟩ :: _) _; first | refine gq_op (hk := ?_) | (refine gq_nw (hk := ?_); intro u; try simp only [llc, lln, lna, lza])) | (show GD _ _ _ _ _ _ _ (⟨some _, none, _⟩ :: _) _; first | refine gd_op (hk := ?_) | (refine gd_nw (hk := ?_); intro u; try simp only [llc, lln, lna, lza])) | (show GD2 _ _ _ _ _ _ _ _ _ _ _ _ _ _; first | refine gd2_nil rfl ?_ | refine gd2_op (hk := ?_) | (refine gd2_nw (hk := ?_); intro u; try simp only [llc, lln, lna, lza]) | refine gd2_l (hk := ?_) | refine gd2_lp (hk := ?_) | (refine gd2_newp (hk := ?_); intro id) | refine gd2_st (hk := ?_) | (refine gd2_bsl rfl rfl ?_; intro u; try simp only [llc, lln, lna, lza]) | (refine gd2_a (hk := ?_); intro u; try simp only [llc, lln, lna, lza])) | (show GO _ _ _ _ _ (⟨none, none, _⟩ :: _) _; refine go_st (hk := ?_)) | (show GD _ _ _ _ _ _ _ (⟨none, none, _⟩ :: _) _; refine gd_st (hk := ?_)) | (show GO _ _ _ _ _ (⟨_, some _, _⟩ :: _) _; first | refine go_in (hk := ?_) | refine go_out (hk := ?_) | refine go_void (hk := ?_)) | (show GQ _ _ _ _ _ _ _ (⟨_, some _, _⟩ :: _) _; first | refine gq_in (hk := ?_) | refine gq_out (hk := ?_) | refine gq_void (hk := ?_)) | (show GK _ _ _ _ (blockK _ _ _); refine gk_past rfl ?_) | (show GC _ _ _ _ _ (.cond _ _ _) _; first | refine gc_yes (h1 := ?_) | refine gc_no (h1 := ?_))))
        refine gk_next (hk (⟨ci, .rw, u, cs, e + 1⟩ :: r) ⟨by simp, ⟨rfl, by dsimp only; omega, .inl rfl, h7⟩, ?_⟩ (by simp)) (hs := .cons .head (.cons .head (sub_drop (sub_drop (sub_drop (sub_refl _))))))
        rw [← hp1]
        exact (if_neg hge).symm
    · have hlt : mnA (rS xs ws) (rW ws) cs ce < mnA (rS xs ws) (rW ws) ce (e + 1) := by
        rw [mnR_mnA, mnR_mnA]
        exact cmR_neg.1 (by omega)
      (repeat (first | refine gst (hk := ?_) | (with_reducible first | (refine gc_drw (h := ?_); intro _) | (refine gc_drw2 (h := ?_); intro _)) | (refine gq_is rfl (stp_peqN rfl rfl) ?_) | (show GO _ _ _ _ _ (⟨some _, none, _⟩ :: _) _; first | refine go_op (hk := ?_) | (refine go_nw (hk := ?_); intro u; try simp only [llc, lln, lna, lza]) | (refine go_np (hk := ?_); intro id)) | (show GQ _ _ _ _ _ _ _ (⟨some _, none, _⟩ :: _) _; first | refine gq_op (hk := ?_) | (refine gq_nw (hk := ?_); intro u; try simp only [llc, lln, lna, lza])) | (show GD _ _ _ _ _ _ _ (⟨some _, none, _⟩ :: _) _; first | refine gd_op (hk := ?_) | (refine gd_nw (hk := ?_); intro u; try simp only [llc, lln, lna, lza])) | (show GD2 _ _ _ _ _ _ _ _ _ _ _ _ _ _; first | refine gd2_nil rfl ?_ | refine gd2_op (hk := ?_) | (refine gd2_nw (hk := ?_); intro u; try simp only [llc, lln, lna, lza]) | refine gd2_l (hk := ?_) | refine gd2_lp (hk := ?_) | (refine gd2_newp (hk := ?_); intro id) | refine gd2_st (hk := ?_) | (refine gd2_bsl rfl rfl ?_; intro u; try simp only [llc, lln, lna, lza]) | (refine gd2_a (hk := ?_); intro u; try simp only [llc, lln, lna, lza])) | (show GO _ _ _ _ _ (⟨none, none, _⟩ :: _) _; refine go_st (hk := ?_)) | (show GD _ _ _ _ _ _ _ (⟨none, none, _⟩ :: _) _; refine gd_st (hk := ?_)) | (show GO _ _ _ _ _ (⟨_, some _, _⟩ :: _) _; first | refine go_in (hk := ?_) | refine go_out (hk := ?_) | refine go_void (hk := ?_)) | (show GQ _ _ _ _ _ _ _ (⟨_, some _, _⟩ :: _) _; first | refine gq_in (hk := ?_) | refine gq_out (hk := ?_) | refine gq_void (hk := ?_)) | (show GK _ _ _ _ (blockK _ _ _); refine gk_past rfl ?_) | (show GC _ _ _ _ _ (.cond _ _ _) _; first | refine gc_yes (h1 := ?_) | refine gc_no (h1 := ?_))))
      refine gk_ret rfl fun H' hH => ⟨⟨bi, bk, bv, ce, e + 1⟩ :: ⟨ci, ck, cv, cs, ce⟩ :: r, rfl, hH, ⟨rfl, h2, h3, rfl, h5, h6, h7⟩, ?_⟩
      rw [← hp1]
      exact (if_pos hlt).symm

def bkL : List Nat → Nat → List (Nat × Nat)
  | [], _ => []
  | a :: r, e => bkL r a ++ [(a, e)]

abbrev rwCh (xs ws : List Int) (q : AV × Nat × Nat) : Ch := ⟨.ro, q.1, 2, q.2.2 - q.2.1, pns (wnL xs ws q.2.1 q.2.2)⟩

abbrev rwS (xs ws : List Int) (qs : List (AV × Nat × Nat)) : Sig := qs.map (rwCh xs ws)

abbrev rwO (u : AV) (qs : List (AV × Nat × Nat)) : Ch := ⟨.rw, u, 1, qs.length, qs.map (·.1)⟩

theorem stk_bk : ∀ {st : List BK} {e : Nat}, stkOk st e → (st.map fun b => (b.s, b.e)).reverse = bkL (st.map (·.s)) e
  | [], _, _ => rfl
  | b :: r, e, h => by
    obtain ⟨h1, _, _, h4⟩ := h
    rw [List.map_cons, List.reverse_cons, stk_bk h4, List.map_cons, bkL, h1]

theorem stk_len : ∀ {st : List BK} {e : Nat}, stkOk st e → st.length ≤ e
  | [], e, _ => Nat.zero_le _
  | b :: r, e, h => by
    obtain ⟨_, h2, _, h4⟩ := h
    have := stk_len h4
    rw [List.length_cons]; omega

theorem go_frz {P : Program} {A : Heap} {X : List Nat} {E : List (Nat × AV)} {S S0 : Sig} {K : St → Prop} {l : List MI} {k : Kd} {v : AV} {es n : Nat} {cs : List AV} (hk : k = .rw ∨ k = .ro) (hs : Sel S ⟨k, v, es, n, cs⟩ S0) (h : GO P A X E (⟨.ro, v, es, n, cs⟩ :: S0) l K) : GO P A X E S l K := by
  rcases hk with rfl | rfl
  · exact go_freeze hs h
  · exact go_sub (.cons hs (sub_refl _)) h

theorem slice_of {H : Heap} {v : AV} {es n : Nat} {cs : List AV} (h : Vals H v es n cs) (hn : 0 < n) : ∃ id off cap, v = .slice id off n cap es := by
  have h1 := h.sl
  have h2 := h.len
  have h3 := h.esz hn
  cases v <;> simp [AV.isSlice] at h1
  · simp only [AV.len] at h2; subst h2
    simp only [AV.es, Option.some.injEq] at h3; subst h3
    exact ⟨_, _, _, rfl⟩
  · simp only [AV.len] at h2; omega

theorem perm_rw {α : Type} (U q W C : α) (R Q S : List α) : ((U :: (R ++ ((Q ++ [q]) ++ S))) ++ [W, C]).Perm (q :: U :: W :: C :: (R ++ (Q ++ S))) := by
  have h1 : (R ++ ((Q ++ [q]) ++ S)).Perm (q :: (R ++ (Q ++ S))) := by
    rw [List.append_assoc Q, ← List.append_assoc R]
    exact (List.perm_middle (l₁ := R ++ Q) (l₂ := S) (a := q)).trans (by rw [List.append_assoc])
  have h2 : ((U :: (q :: (R ++ (Q ++ S)))) ++ [W, C]).Perm ([W, C] ++ (U :: (q :: (R ++ (Q ++ S))))) := List.perm_append_comm
  refine ((h1.cons U).append_right _).trans (h2.trans ?_)
  exact (List.perm_append_comm_assoc [W, C] [U, q] (R ++ (Q ++ S))).trans (List.Perm.swap _ _ _)

theorem risingBlocks_ok {A : Heap} {X : List Nat} {S : Sig} {H : Heap} {a : AV} {xs ws : List Int} (hS : SOk A X S H.size H) (hm : (⟨.ro, a, 2, xs.length, pns (ptL xs ws)⟩ : Ch) ∈ S) (hL : (xs = [] ∧ ws = []) ∨ Loads xs ws) :
    ACalls Try.prog fn_impl_risingBlocks [a] H fun r H' => ∃ g : AV × List (AV × Nat × Nat), r = g.1 ∧ SOk A X ((rwO g.1 g.2 :: rwS xs ws g.2) ++ S) H'.size H' ∧ g.2.map (·.2) = bkL (poS (rS xs ws) (rW ws) xs.length) xs.length := by
  have hn : xs.length ≤ 8 := by
    rcases hL with ⟨rfl, _⟩ | h
    · simp
    · exact h.2.2.2.2
  have hp : 0 < xs.length → Loads xs ws := fun h0 => by
    rcases hL with ⟨rfl, _⟩ | h
    · simp at h0
    · exact h
  have hmem : ∀ T : Sig, (⟨.ro, a, 2, xs.length, pns (ptL xs ws)⟩ : Ch) ∈ T ++ S := fun T => List.mem_append_right _ hm
  have hhas : ∀ T : Sig, Has (T ++ S) a 2 xs.length (pns (ptL xs ws)) := fun T => has_memk (c := ⟨.ro, a, 2, xs.length, pns (ptL xs ws)⟩) (hmem T) (.inr rfl)
  have hh0 : Has S a 2 xs.length (pns (ptL xs ws)) := hhas []
  refine hc_goS code_impl_risingBlocks hS (by simp) ?_
  unfold mc_impl_risingBlocks
  -- alt: refine go_is rfl (stp_peqN rfl rfl) ?_
  (repeat (first | refine gst (hk := ?_) | (refine go_is rfl (stp_peqN rfl rfl) ?_) | (show GO _ _ _ _ _ (⟨some _, none, _⟩ :: _) _; first | refine go_op (hk := ?_) | (refine go_nw (hk := ?_); intro u; try simp only [llc, lln, lna, lza]) | (refine go_np (hk := ?_); intro id)) | (show GO _ _ _ _ _ (⟨none, none, _⟩ :: _) _; refine go_st (hk := ?_)) | (show GO _ _ _ _ _ (⟨_, some _, _⟩ :: _) _; first | refine go_in (hk := ?_) | refine go_out (hk := ?_) | refine go_void (hk := ?_)) | (show GK _ _ _ _ (blockK _ _ _); refine gk_past rfl ?_) | (show GC _ _ _ _ _ (.cond _ _ _) _; first | refine gc_yes (h1 := ?_) | refine gc_no (h1 := ?_))))
  refine go_is rfl (stp_len rfl hh0) ?_
  (repeat (first | refine gst (hk := ?_) | (refine go_is rfl (stp_peqN rfl rfl) ?_) | (show GO _ _ _ _ _ (⟨some _, none, _⟩ :: _) _; first | refine go_op (hk := ?_) | (refine go_nw (hk := ?_); intro u; try simp only [llc, lln, lna, lza]) | (refine go_np (hk := ?_); intro id)) | (show GO _ _ _ _ _ (⟨none, none, _⟩ :: _) _; refine go_st (hk := ?_)) | (show GO _ _ _ _ _ (⟨_, some _, _⟩ :: _) _; first | refine go_in (hk := ?_) | refine go_out (hk := ?_) | refine go_void (hk := ?_)) | (show GK _ _ _ _ (blockK _ _ _); refine gk_past rfl ?_) | (show GC _ _ _ _ _ (.cond _ _ _) _; first | refine gc_yes (h1 := ?_) | refine gc_no (h1 := ?_))))
  refine gc_loop (γ := Nat × List BK) (fun g => [(0, a), (3, aheadV g.2), (7, .int .i64 (xs.length : Int)), (8, .int .i64 (g.1 : Int))]) (fun g => stkS xs ws g.2 ++ S) (fun g => g.1 ≤ xs.length ∧ stkOk g.2 g.1 ∧ g.2.map (·.s) = poS (rS xs ws) (rW ws) g.1) (fun g => xs.length - g.1) (0, []) ⟨Nat.zero_le _, rfl, rfl⟩ (hS := sub_refl _) (hb := ?_)
  rintro ⟨i, st⟩ ⟨hi, hok, hps⟩ I ν μ hk
  simp only at hi hok hps
  (repeat (first | refine gst (hk := ?_) | (refine go_is rfl (stp_peqN rfl rfl) ?_) | (show GO _ _ _ _ _ (⟨some _, none, _⟩ :: _) _; first | refine go_op (hk := ?_) | (refine go_nw (hk := ?_); intro u; try simp only [llc, lln, lna, lza]) | (refine go_np (hk := ?_); intro id)) | (show GO _ _ _ _ _ (⟨none, none, _⟩ :: _) _; refine go_st (hk := ?_)) | (show GO _ _ _ _ _ (⟨_, some _, _⟩ :: _) _; first | refine go_in (hk := ?_) | refine go_out (hk := ?_) | refine go_void (hk := ?_)) | (show GK _ _ _ _ (blockK _ _ _); refine gk_past rfl ?_) | (show GC _ _ _ _ _ (.cond _ _ _) _; first | refine gc_yes (h1 := ?_) | refine gc_no (h1 := ?_))))
  refine gc_cond rfl (fun h => ?_) (fun h => ?_)
  · have hL := hp (by omega)
    (repeat (first | refine gst (hk := ?_) | (refine go_is rfl (stp_peqN rfl rfl) ?_) | (show GO _ _ _ _ _ (⟨some _, none, _⟩ :: _) _; first | refine go_op (hk := ?_) | (refine go_nw (hk := ?_); intro u; try simp only [llc, lln, lna, lza]) | (refine go_np (hk := ?_); intro id)) | (show GO _ _ _ _ _ (⟨none, none, _⟩ :: _) _; refine go_st (hk := ?_)) | (show GO _ _ _ _ _ (⟨_, some _, _⟩ :: _) _; first | refine go_in (hk := ?_) | refine go_out (hk := ?_) | refine go_void (hk := ?_)) | (show GK _ _ _ _ (blockK _ _ _); refine gk_past rfl ?_) | (show GC _ _ _ _ _ (.cond _ _ _) _; first | refine gc_yes (h1 := ?_) | refine gc_no (h1 := ?_))))
    refine go_know (p := ∃ id off, winV a i (i + 1) = .slice id off (i + 1 - i) (some (i + 1 - i)) 2) (fun m H hH => ?_) (fun hw => ?_)
    · obtain ⟨id, off, cap, rfl⟩ := slice_of (hH.valsA (hhas _)) (by omega)
      exact ⟨_, _, rfl⟩
    refine go_call rfl code_impl_cut.callable (fun H hH => cut_ok (hH.valsA (hhas _)) (l := i) (k := i) (by omega) (by omega)) ?_
    refine go_read (w := winV a i (i + 1)) (es := 2) (m := i + 1 - i) (ds := pns (wnL xs ws i (i + 1))) (fun H hv => vals_win cels_pn hv (ptL_len _ _).symm (by omega)) (hmem _) (fun j hj => winV_bid hj) ?_
    refine go_callg (V := aheadV) (T := fun st' => stkS xs ws st' ++ S) rfl code_impl_putBehind.callable (fun H hH => putBehind_ok hL (by omega) hH hw hok) ?_
    rintro st' ⟨hok', hps'⟩
    (repeat (first | refine gst (hk := ?_) | (refine go_is rfl (stp_peqN rfl rfl) ?_) | (show GO _ _ _ _ _ (⟨some _, none, _⟩ :: _) _; first | refine go_op (hk := ?_) | (refine go_nw (hk := ?_); intro u; try simp only [llc, lln, lna, lza]) | (refine go_np (hk := ?_); intro id)) | (show GO _ _ _ _ _ (⟨none, none, _⟩ :: _) _; refine go_st (hk := ?_)) | (show GO _ _ _ _ _ (⟨_, some _, _⟩ :: _) _; first | refine go_in (hk := ?_) | refine go_out (hk := ?_) | refine go_void (hk := ?_)) | (show GK _ _ _ _ (blockK _ _ _); refine gk_past rfl ?_) | (show GC _ _ _ _ _ (.cond _ _ _) _; first | refine gc_yes (h1 := ?_) | refine gc_no (h1 := ?_))))
    exact gk_next (hk (i + 1, st') ⟨by dsimp only; omega, hok', by rw [hps', hps]; rfl⟩ (by dsimp only; omega)) (hs := sub_refl _)
  · obtain rfl : i = xs.length := by omega
    (repeat (first | refine gst (hk := ?_) | (refine go_is rfl (stp_peqN rfl rfl) ?_) | (show GO _ _ _ _ _ (⟨some _, none, _⟩ :: _) _; first | refine go_op (hk := ?_) | (refine go_nw (hk := ?_); intro u; try simp only [llc, lln, lna, lza]) | (refine go_np (hk := ?_); intro id)) | (show GO _ _ _ _ _ (⟨none, none, _⟩ :: _) _; refine go_st (hk := ?_)) | (show GO _ _ _ _ _ (⟨_, some _, _⟩ :: _) _; first | refine go_in (hk := ?_) | refine go_out (hk := ?_) | refine go_void (hk := ?_)) | (show GK _ _ _ _ (blockK _ _ _); refine gk_past rfl ?_) | (show GC _ _ _ _ _ (.cond _ _ _) _; first | refine gc_yes (h1 := ?_) | refine gc_no (h1 := ?_))))
    refine gc_nilK 1 ?_
    refine gc_loop (γ := List BK × AV × List (AV × Nat × Nat)) (fun g => [(3, aheadV g.1), (5, g.2.1)]) (fun g => rwO g.2.1 g.2.2 :: (stkS xs ws g.1 ++ (rwS xs ws g.2.2 ++ S))) (fun g => (∃ e, stkOk g.1 e) ∧ (∀ q ∈ g.2.2, OneC q.1) ∧ g.2.2.map (·.2) ++ g.1.map (fun b => (b.s, b.e)) = st.map (fun b => (b.s, b.e)) ∧ g.2.2.length + g.1.length ≤ 8) (fun g => g.1.length) (st, .nilSlice, []) ⟨⟨_, hok⟩, by simp, rfl, ?_⟩ (hS := sub_refl _) (hb := ?_)
    · have := stk_len hok
      dsimp only [List.length_nil]; omega
    rintro ⟨s1, u, qs⟩ ⟨⟨e, hok1⟩, hone, hqs, hle⟩ I2 ν2 μ2 hk2
    simp only at hok1 hone hqs hle
    match s1, hok1 with
    | [], _ =>
      refine gc_keep [(3, .nilPtr), (5, u)] (rwO u qs :: (rwS xs ws qs ++ S)) (by (repeat (refine Cov.cons (by exact rfl) ?_)); exact Cov.nil) (sub_refl _) ?_
      (repeat (first | refine gst (hk := ?_) | (refine go_is rfl (stp_peqN rfl rfl) ?_) | (show GO _ _ _ _ _ (⟨some _, none, _⟩ :: _) _; first | refine go_op (hk := ?_) | (refine go_nw (hk := ?_); intro u; try simp only [llc, lln, lna, lza]) | (refine go_np (hk := ?_); intro id)) | (show GO _ _ _ _ _ (⟨none, none, _⟩ :: _) _; refine go_st (hk := ?_)) | (show GO _ _ _ _ _ (⟨_, some _, _⟩ :: _) _; first | refine go_in (hk := ?_) | refine go_out (hk := ?_) | refine go_void (hk := ?_)) | (show GK _ _ _ _ (blockK _ _ _); refine gk_past rfl ?_) | (show GC _ _ _ _ _ (.cond _ _ _) _; first | refine gc_yes (h1 := ?_) | refine gc_no (h1 := ?_))))
      refine go_callw rfl code_slices_Reverse_rows_impl_load_impl_load.callable (fun H hH => reverseV_ok hH .head (by simp) (fun w hw => by
        obtain ⟨q, hq, rfl⟩ := List.mem_map.1 hw
        exact hone q hq) (by omega)) ?_
      (repeat (first | refine gst (hk := ?_) | (refine go_is rfl (stp_peqN rfl rfl) ?_) | (show GO _ _ _ _ _ (⟨some _, none, _⟩ :: _) _; first | refine go_op (hk := ?_) | (refine go_nw (hk := ?_); intro u; try simp only [llc, lln, lna, lza]) | (refine go_np (hk := ?_); intro id)) | (show GO _ _ _ _ _ (⟨none, none, _⟩ :: _) _; refine go_st (hk := ?_)) | (show GO _ _ _ _ _ (⟨_, some _, _⟩ :: _) _; first | refine go_in (hk := ?_) | refine go_out (hk := ?_) | refine go_void (hk := ?_)) | (show GK _ _ _ _ (blockK _ _ _); refine gk_past rfl ?_) | (show GC _ _ _ _ _ (.cond _ _ _) _; first | refine gc_yes (h1 := ?_) | refine gc_no (h1 := ?_))))
      have e1 : rwO u qs.reverse = ⟨.rw, u, 1, qs.length, (qs.map (·.1)).reverse⟩ := by simp [rwO, List.map_reverse]
      refine gk_ret rfl fun H' hH => ⟨(u, qs.reverse), rfl, hH.sub ?_, ?_⟩
      · show Sub _ (rwO u qs.reverse :: (rwS xs ws qs.reverse ++ S))
        rw [e1]
        exact .cons .head (sub_perm (List.Perm.append_right _ ((List.reverse_perm _).map _)))
      · rw [List.map_reverse, ← hps, ← stk_bk hok, ← hqs]
        simp
    | ⟨bi, bk, bv, bs, be⟩ :: r, hok1 =>
      refine gc_keep [(3, .ptr bi 0), (5, u)] (rwO u qs :: ⟨.cell, .ptr bi 0, 2, 1, [bv, aheadV r]⟩ :: ⟨bk, bv, 2, be - bs, pns (wnL xs ws bs be)⟩ :: (stkS xs ws r ++ (rwS xs ws qs ++ S))) (by (repeat (refine Cov.cons (by exact rfl) ?_)); exact Cov.nil) (sub_refl _) ?_
      simp only [stkOk] at hok1
      obtain ⟨rfl, h2, h3, h4⟩ := hok1
      have k3 := h3.kd
      simp only at k3
      simp only [List.length_cons] at hle
      (repeat (first | refine gst (hk := ?_) | (refine go_is rfl (stp_peqN rfl rfl) ?_) | (show GO _ _ _ _ _ (⟨some _, none, _⟩ :: _) _; first | refine go_op (hk := ?_) | (refine go_nw (hk := ?_); intro u; try simp only [llc, lln, lna, lza]) | (refine go_np (hk := ?_); intro id)) | (show GO _ _ _ _ _ (⟨none, none, _⟩ :: _) _; refine go_st (hk := ?_)) | (show GO _ _ _ _ _ (⟨_, some _, _⟩ :: _) _; first | refine go_in (hk := ?_) | refine go_out (hk := ?_) | refine go_void (hk := ?_)) | (show GK _ _ _ _ (blockK _ _ _); refine gk_past rfl ?_) | (show GC _ _ _ _ _ (.cond _ _ _) _; first | refine gc_yes (h1 := ?_) | refine gc_no (h1 := ?_))))
      refine go_know (p := OneC bv) (fun m H hH => one_slice (hH.valsA (.tail (.tail (has_k k3))))) (fun ho => ?_)
      refine go_new rfl (stp_bslv rfl ho.1 ho.2) ?_
      intro w
      refine go_new rfl (stp_app (v := u) (es := 1) (n := qs.length) (m' := 1) (cs := qs.map (·.1)) (news := [bv]) rfl rfl (.tail .head) .rw (by simp [ho.2]) (by omega) (by omega) (by omega)) ?_
      intro u'
      refine go_frz k3 (.tail (.tail (.tail .head))) ?_
      (repeat (first | refine gst (hk := ?_) | (refine go_is rfl (stp_peqN rfl rfl) ?_) | (show GO _ _ _ _ _ (⟨some _, none, _⟩ :: _) _; first | refine go_op (hk := ?_) | (refine go_nw (hk := ?_); intro u; try simp only [llc, lln, lna, lza]) | (refine go_np (hk := ?_); intro id)) | (show GO _ _ _ _ _ (⟨none, none, _⟩ :: _) _; refine go_st (hk := ?_)) | (show GO _ _ _ _ _ (⟨_, some _, _⟩ :: _) _; first | refine go_in (hk := ?_) | refine go_out (hk := ?_) | refine go_void (hk := ?_)) | (show GK _ _ _ _ (blockK _ _ _); refine gk_past rfl ?_) | (show GC _ _ _ _ _ (.cond _ _ _) _; first | refine gc_yes (h1 := ?_) | refine gc_no (h1 := ?_))))
      have e1 : rwO u' (qs ++ [(bv, bs, be)]) = ⟨.rw, u', 1, qs.length + 1, qs.map (·.1) ++ [bv]⟩ := by simp [rwO]
      have e2 : rwS xs ws (qs ++ [(bv, bs, be)]) = rwS xs ws qs ++ [rwCh xs ws (bv, bs, be)] := by simp [rwS]
      refine gk_next (hk2 (r, u', qs ++ [(bv, bs, be)]) ⟨⟨_, h4⟩, fun q hq => ?_, ?_, ?_⟩ (by simp)) (hs := sub_pre (R := [⟨.rw, w, 1, 1, [bv]⟩, ⟨.cell, .ptr bi 0, 2, 1, [bv, aheadV r]⟩]) (sub_perm ?_))
      · rcases List.mem_append.1 hq with hq | hq
        · exact hone q hq
        · rw [List.mem_singleton.1 hq]; exact ho
      · rw [← hqs]; simp
      · simp only [List.length_append, List.length_cons, List.length_nil]; omega
      · simp only [e1, e2]
        exact perm_rw _ _ _ _ _ _ _

theorem bkL_len : ∀ (r : List Nat) (e : Nat), (bkL r e).length = r.length
  | [], _ => rfl
  | a :: r, e => by rw [bkL, List.length_append, bkL_len r a]; rfl

theorem bkL_at : ∀ {r : List Nat} {e j s u : Nat}, j < r.length → nth (stI r) j = (s : Int) → (if j + 1 < r.length then nth (stI r) (j + 1) else (e : Int)) = (u : Int) → (bkL r e)[j]? = some (s, u)
  | [], _, j, _, _, h, _, _ => absurd h (Nat.not_lt_zero _)
  | a :: r, e, j, s, u, h, h1, h2 => by
    have hl := stI_len r
    have hb := bkL_len r a
    rw [stI] at h1 h2
    rw [bkL]
    simp only [List.length_cons] at h h2
    rcases Nat.lt_or_ge j r.length with h3 | h3
    · rw [List.getElem?_append_left (by omega)]
      rw [nth_app_lt (by omega)] at h1
      refine bkL_at h3 h1 ?_
      rw [if_pos (by omega)] at h2
      rcases Nat.lt_or_ge (j + 1) r.length with h4 | h4
      · rw [if_pos h4, ← h2, nth_app_lt (by omega)]
      · rw [if_neg (by omega), ← h2, show j + 1 = (stI r).length by omega, nth_app_eq]
    · obtain rfl : j = r.length := by omega
      rw [List.getElem?_append_right (by omega), hb, Nat.sub_self]
      rw [← hl, nth_app_eq] at h1
      rw [if_neg (by omega)] at h2
      simp only [List.getElem?_cons_zero, Option.some.injEq]
      exact Prod.ext (by dsimp only; omega) (by dsimp only; omega)

structure BlkAt (xs ws : List Int) (qs : List (AV × Nat × Nat)) (j : Nat) (v : AV) (s u : Nat) : Prop where
  mem : (v, s, u) ∈ qs
  val : nthV (qs.map (·.1)) j = v
  st : nth (blL xs ws) j = (s : Int)
  nx : (if j + 1 < (blL xs ws).length then nth (blL xs ws) (j + 1) else (xs.length : Int)) = (u : Int)
  lt : s < u
  le : u ≤ xs.length
  fit : ∀ t, s ≤ t → t < u → fiR xs ws t = mnR xs ws s u
  z : j = 0 → s = 0
  l : j + 1 = (blL xs ws).length → u = xs.length

theorem blk_len {xs ws : List Int} {qs : List (AV × Nat × Nat)} (hq : qs.map (·.2) = bkL (poS (rS xs ws) (rW ws) xs.length) xs.length) : qs.length = (blL xs ws).length := by
  have := congrArg List.length hq
  rw [List.length_map, bkL_len] at this
  rw [this]; exact (stI_len _).symm

theorem blk_get {xs ws : List Int} (hL : Loads xs ws) {qs : List (AV × Nat × Nat)} (hq : qs.map (·.2) = bkL (poS (rS xs ws) (rW ws) xs.length) xs.length) {j : Nat} (hj : j < qs.length) : ∃ v s u, BlkAt xs ws qs j v s u := by
  have hsl : (blL xs ws).length = (poS (rS xs ws) (rW ws) xs.length).length := stI_len _
  have hlen := blk_len hq
  obtain ⟨s, u, g1, g2, g3, g4, g5, g6, g7, _⟩ := blk_at hL.blk.1 j (by omega)
  have hb := bkL_at (e := xs.length) (by omega) g1 g2
  rw [← hq, List.getElem?_map] at hb
  rw [List.getElem?_eq_getElem hj] at hb
  simp only [Option.map_some, Option.some.injEq] at hb
  refine ⟨qs[j].1, s, u, ?_, ?_, g1, by rw [hsl]; exact g2, g3, g4, fun t h1 h2 => ?_, g6, fun h => g7 (by omega)⟩
  · have : qs[j] = (qs[j].1, s, u) := Prod.ext rfl hb
    rw [← this]
    exact List.getElem_mem hj
  · rw [show nthV (qs.map (·.1)) j = (qs.map (·.1))[j]'(by rw [List.length_map]; exact hj) from nthA_of _, List.getElem_map]
  · rw [← mnR_mnA]; exact g5 t h1 h2

theorem rw_has {xs ws : List Int} {qs : List (AV × Nat × Nat)} {v : AV} {s u : Nat} (h : (v, s, u) ∈ qs) (T S : Sig) : Has (T ++ (rwS xs ws qs ++ S)) v 2 (u - s) (pns (wnL xs ws s u)) :=
  has_memk (c := rwCh xs ws (v, s, u)) (List.mem_append_right _ (List.mem_append_left _ (List.mem_map.2 ⟨_, h, rfl⟩))) (.inr rfl)

theorem implBlocksOf_ok {H : Heap} {a b : AV} {xs ws : List Int} (ha : Ints H a xs) (hb : Ints H b ws) (hl : xs.length ≤ 1000000000) (hl' : ws.length ≤ 1000000000) :
    ACalls Try.prog fn_impl_BlocksOf [a, b] H fun r H' => OwnI H H' r (blO xs ws) ∧ Le H H' := by
  refine code_impl_BlocksOf.go [.roI a xs.length xs, .roI b ws.length ws] ⟨⟨rfl, ha⟩, ⟨rfl, hb⟩, trivial⟩ (by simp) ?_
  unfold mc_impl_BlocksOf
  (repeat (first | refine gst (hk := ?_) | (show GO _ _ _ _ _ (⟨some _, none, .call _ _⟩ :: _) _; first | (refine go_callp rfl code_impl_ValidLoads.callable (fun H hH => implValidLoads_ok (hH.ints (by exact Has.auto)) (hH.ints (by exact Has.auto)) (by omega) (by omega)) ?_)) | (show GO _ _ _ _ _ (⟨some _, none, _⟩ :: _) _; first | refine go_op (hk := ?_) | (refine go_nw (hk := ?_); intro u; try simp only [llc, lln, lna, lza]) | (refine go_np (hk := ?_); intro id)) | (show GO _ _ _ _ _ (⟨none, none, _⟩ :: _) _; refine go_st (hk := ?_)) | (show GO _ _ _ _ _ (⟨_, some _, _⟩ :: _) _; first | refine go_in (hk := ?_) | refine go_out (hk := ?_) | refine go_void (hk := ?_)) | (show GK _ _ _ _ (blockK _ _ _); refine gk_past rfl ?_) | (show GC _ _ _ _ _ (.cond _ _ _) _; first | refine gc_yes (h1 := ?_) | refine gc_no (h1 := ?_))))
  refine gc_cond rfl (fun h => ?_) (fun h => ?_)
  · (repeat (first | refine gst (hk := ?_) | (show GO _ _ _ _ _ (⟨some _, none, .call _ _⟩ :: _) _; first | (refine go_callp rfl code_impl_ValidLoads.callable (fun H hH => implValidLoads_ok (hH.ints (by exact Has.auto)) (hH.ints (by exact Has.auto)) (by omega) (by omega)) ?_)) | (show GO _ _ _ _ _ (⟨some _, none, _⟩ :: _) _; first | refine go_op (hk := ?_) | (refine go_nw (hk := ?_); intro u; try simp only [llc, lln, lna, lza]) | (refine go_np (hk := ?_); intro id)) | (show GO _ _ _ _ _ (⟨none, none, _⟩ :: _) _; refine go_st (hk := ?_)) | (show GO _ _ _ _ _ (⟨_, some _, _⟩ :: _) _; first | refine go_in (hk := ?_) | refine go_out (hk := ?_) | refine go_void (hk := ?_)) | (show GK _ _ _ _ (blockK _ _ _); refine gk_past rfl ?_) | (show GC _ _ _ _ _ (.cond _ _ _) _; first | refine gc_yes (h1 := ?_) | refine gc_no (h1 := ?_))))
    refine gk_ret rfl fun H' hH => ⟨?_, hH.leE⟩
    unfold blO; rw [if_neg h]
    exact Own.nil _ _ _
  have hL := Decidable.not_not.1 h
  rw [show blO xs ws = blL xs ws from if_pos hL]
  have hn := hL.2.2.2.2
  have hbl := hL.bl_len
  (repeat (first | refine gst (hk := ?_) | (show GO _ _ _ _ _ (⟨some _, none, .call _ _⟩ :: _) _; first | (refine go_callp rfl code_impl_ValidLoads.callable (fun H hH => implValidLoads_ok (hH.ints (by exact Has.auto)) (hH.ints (by exact Has.auto)) (by omega) (by omega)) ?_)) | (show GO _ _ _ _ _ (⟨some _, none, _⟩ :: _) _; first | refine go_op (hk := ?_) | (refine go_nw (hk := ?_); intro u; try simp only [llc, lln, lna, lza]) | (refine go_np (hk := ?_); intro id)) | (show GO _ _ _ _ _ (⟨none, none, _⟩ :: _) _; refine go_st (hk := ?_)) | (show GO _ _ _ _ _ (⟨_, some _, _⟩ :: _) _; first | refine go_in (hk := ?_) | refine go_out (hk := ?_) | refine go_void (hk := ?_)) | (show GK _ _ _ _ (blockK _ _ _); refine gk_past rfl ?_) | (show GC _ _ _ _ _ (.cond _ _ _) _; first | refine gc_yes (h1 := ?_) | refine gc_no (h1 := ?_))))
  refine go_calln rfl code_impl_loadsOf.callable (fun H hH => loadsOf_ok (hH.ints (by exact Has.auto)) (hH.ints (by exact Has.auto)) hL.2.2.1 (by omega)) ?_
  intro u
  refine go_freeze .head ?_
  refine go_callg (V := fun g : AV × List (AV × Nat × Nat) => g.1) (T := fun g => (rwO g.1 g.2 :: rwS xs ws g.2) ++ [roP u xs.length (ptL xs ws), .roI a xs.length xs, .roI b ws.length ws]) rfl code_impl_risingBlocks.callable (fun H hH => risingBlocks_ok hH (by simp) (.inr hL)) ?_
  rintro ⟨v, qs⟩ hq
  dsimp only at hq
  have hql := blk_len hq
  (repeat (first | refine gst (hk := ?_) | (show GO _ _ _ _ _ (⟨some _, none, .call _ _⟩ :: _) _; first | (refine go_callp rfl code_impl_ValidLoads.callable (fun H hH => implValidLoads_ok (hH.ints (by exact Has.auto)) (hH.ints (by exact Has.auto)) (by omega) (by omega)) ?_)) | (show GO _ _ _ _ _ (⟨some _, none, _⟩ :: _) _; first | refine go_op (hk := ?_) | (refine go_nw (hk := ?_); intro u; try simp only [llc, lln, lna, lza]) | (refine go_np (hk := ?_); intro id)) | (show GO _ _ _ _ _ (⟨none, none, _⟩ :: _) _; refine go_st (hk := ?_)) | (show GO _ _ _ _ _ (⟨_, some _, _⟩ :: _) _; first | refine go_in (hk := ?_) | refine go_out (hk := ?_) | refine go_void (hk := ?_)) | (show GK _ _ _ _ (blockK _ _ _); refine gk_past rfl ?_) | (show GC _ _ _ _ _ (.cond _ _ _) _; first | refine gc_yes (h1 := ?_) | refine gc_no (h1 := ?_))))
  refine gc_nilK 1 ?_
  refine gc_loop (γ := Nat × AV) (fun g => [(5, g.2), (6, .int .i64 (if g.1 < (blL xs ws).length then nth (blL xs ws) g.1 else (xs.length : Int))), (16, v), (17, .int .i64 (qs.length : Int)), (18, .int .i64 (g.1 : Int))]) (fun g => .rwI g.2 g.1 ((blL xs ws).take g.1) :: ([rwO v qs] ++ (rwS xs ws qs ++ [roP u xs.length (ptL xs ws), .roI a xs.length xs, .roI b ws.length ws]))) (fun g => g.1 ≤ (blL xs ws).length) (fun g => (blL xs ws).length - g.1) (0, .nilSlice) (Nat.zero_le _) (hE := ?_) (hS := sub_refl _) (hb := ?_)
  · obtain ⟨w, s, e, h1⟩ := blk_get hL hq (j := 0) (by omega)
    have := h1.z rfl
    subst this
    rw [if_pos (by omega), h1.st]
    (repeat (refine Cov.cons (by exact rfl) ?_)); exact Cov.nil
  rintro ⟨j, f⟩ hj I ν μ hk
  simp only at hj
  (repeat (first | refine gst (hk := ?_) | (show GO _ _ _ _ _ (⟨some _, none, .call _ _⟩ :: _) _; first | (refine go_callp rfl code_impl_ValidLoads.callable (fun H hH => implValidLoads_ok (hH.ints (by exact Has.auto)) (hH.ints (by exact Has.auto)) (by omega) (by omega)) ?_)) | (show GO _ _ _ _ _ (⟨some _, none, _⟩ :: _) _; first | refine go_op (hk := ?_) | (refine go_nw (hk := ?_); intro u; try simp only [llc, lln, lna, lza]) | (refine go_np (hk := ?_); intro id)) | (show GO _ _ _ _ _ (⟨none, none, _⟩ :: _) _; refine go_st (hk := ?_)) | (show GO _ _ _ _ _ (⟨_, some _, _⟩ :: _) _; first | refine go_in (hk := ?_) | refine go_out (hk := ?_) | refine go_void (hk := ?_)) | (show GK _ _ _ _ (blockK _ _ _); refine gk_past rfl ?_) | (show GC _ _ _ _ _ (.cond _ _ _) _; first | refine gc_yes (h1 := ?_) | refine gc_no (h1 := ?_))))
  refine gc_cond rfl (fun h1 => ?_) (fun h1 => ?_)
  · obtain ⟨w, s, e, hB⟩ := blk_get hL hq (j := j) (by omega)
    have g1 := hB.st
    have g2 := hB.lt
    have g3 := hB.le
    rw [if_pos (by omega), g1]
    (repeat (first | refine gst (hk := ?_) | (show GO _ _ _ _ _ (⟨some _, none, .call _ _⟩ :: _) _; first | (refine go_callp rfl code_impl_ValidLoads.callable (fun H hH => implValidLoads_ok (hH.ints (by exact Has.auto)) (hH.ints (by exact Has.auto)) (by omega) (by omega)) ?_)) | (show GO _ _ _ _ _ (⟨some _, none, _⟩ :: _) _; first | refine go_op (hk := ?_) | (refine go_nw (hk := ?_); intro u; try simp only [llc, lln, lna, lza]) | (refine go_np (hk := ?_); intro id)) | (show GO _ _ _ _ _ (⟨none, none, _⟩ :: _) _; refine go_st (hk := ?_)) | (show GO _ _ _ _ _ (⟨_, some _, _⟩ :: _) _; first | refine go_in (hk := ?_) | refine go_out (hk := ?_) | refine go_void (hk := ?_)) | (show GK _ _ _ _ (blockK _ _ _); refine gk_past rfl ?_) | (show GC _ _ _ _ _ (.cond _ _ _) _; first | refine gc_yes (h1 := ?_) | refine gc_no (h1 := ?_))))
    refine go_is rfl (stp_ldV (i := j) rfl (by exact Has.auto) (by simp) (by simp; omega)) ?_
    rw [hB.val]
    (repeat (first | refine gst (hk := ?_) | (show GO _ _ _ _ _ (⟨some _, none, .call _ _⟩ :: _) _; first | (refine go_callp rfl code_impl_ValidLoads.callable (fun H hH => implValidLoads_ok (hH.ints (by exact Has.auto)) (hH.ints (by exact Has.auto)) (by omega) (by omega)) ?_)) | (show GO _ _ _ _ _ (⟨some _, none, _⟩ :: _) _; first | refine go_op (hk := ?_) | (refine go_nw (hk := ?_); intro u; try simp only [llc, lln, lna, lza]) | (refine go_np (hk := ?_); intro id)) | (show GO _ _ _ _ _ (⟨none, none, _⟩ :: _) _; refine go_st (hk := ?_)) | (show GO _ _ _ _ _ (⟨_, some _, _⟩ :: _) _; first | refine go_in (hk := ?_) | refine go_out (hk := ?_) | refine go_void (hk := ?_)) | (show GK _ _ _ _ (blockK _ _ _); refine gk_past rfl ?_) | (show GC _ _ _ _ _ (.cond _ _ _) _; first | refine gc_yes (h1 := ?_) | refine gc_no (h1 := ?_))))
    refine go_is rfl (stp_len rfl (rw_has hB.mem [_, _, _] _)) ?_
    have hk2 := hk (j + 1, u) (by dsimp only; omega) (by dsimp only; omega)
    dsimp only at hk2
    rw [hB.nx, take_snoc (by omega), g1] at hk2
    (repeat (first | refine gst (hk := ?_) | (show GO _ _ _ _ _ (⟨some _, none, .call _ _⟩ :: _) _; first | (refine go_callp rfl code_impl_ValidLoads.callable (fun H hH => implValidLoads_ok (hH.ints (by exact Has.auto)) (hH.ints (by exact Has.auto)) (by omega) (by omega)) ?_)) | (show GO _ _ _ _ _ (⟨some _, none, _⟩ :: _) _; first | refine go_op (hk := ?_) | (refine go_nw (hk := ?_); intro u; try simp only [llc, lln, lna, lza]) | (refine go_np (hk := ?_); intro id)) | (show GO _ _ _ _ _ (⟨none, none, _⟩ :: _) _; refine go_st (hk := ?_)) | (show GO _ _ _ _ _ (⟨_, some _, _⟩ :: _) _; first | refine go_in (hk := ?_) | refine go_out (hk := ?_) | refine go_void (hk := ?_)) | (show GK _ _ _ _ (blockK _ _ _); refine gk_past rfl ?_) | (show GC _ _ _ _ _ (.cond _ _ _) _; first | refine gc_yes (h1 := ?_) | refine gc_no (h1 := ?_))))
    exact gk_next hk2 (hs := .cons .head (sub_drop (sub_refl _)))
  · obtain rfl : j = (blL xs ws).length := by omega
    (repeat (first | refine gst (hk := ?_) | (show GO _ _ _ _ _ (⟨some _, none, .call _ _⟩ :: _) _; first | (refine go_callp rfl code_impl_ValidLoads.callable (fun H hH => implValidLoads_ok (hH.ints (by exact Has.auto)) (hH.ints (by exact Has.auto)) (by omega) (by omega)) ?_)) | (show GO _ _ _ _ _ (⟨some _, none, _⟩ :: _) _; first | refine go_op (hk := ?_) | (refine go_nw (hk := ?_); intro u; try simp only [llc, lln, lna, lza]) | (refine go_np (hk := ?_); intro id)) | (show GO _ _ _ _ _ (⟨none, none, _⟩ :: _) _; refine go_st (hk := ?_)) | (show GO _ _ _ _ _ (⟨_, some _, _⟩ :: _) _; first | refine go_in (hk := ?_) | refine go_out (hk := ?_) | refine go_void (hk := ?_)) | (show GK _ _ _ _ (blockK _ _ _); refine gk_past rfl ?_) | (show GC _ _ _ _ _ (.cond _ _ _) _; first | refine gc_yes (h1 := ?_) | refine gc_no (h1 := ?_))))
    refine gk_ret rfl fun H' hH => ?_
    have := hH.give .head
    rw [List.take_length] at this
    exact this

def MeOk (xs ws : List Int) (i k : Int) : Prop := Loads xs ws ∧ (0 ≤ i ∧ i ≤ (xs.length : Int) - 1) ∧ (i ≤ k ∧ k ≤ (xs.length : Int) - 1)

noncomputable instance (xs ws : List Int) (i k : Int) : Decidable (MeOk xs ws i k) := Classical.propDecidable _

theorem meX_t (xs ws : List Int) (i k : Int) : meX xs ws i k = .tuple [opV (MeOk xs ws i k) (mnR xs ws i.toNat (k.toNat + 1)), .bool (decide (MeOk xs ws i k))] := by
  unfold meX
  by_cases h : MeOk xs ws i k
  · rw [if_pos (show Loads xs ws ∧ (0 ≤ i ∧ i ≤ (xs.length : Int) - 1) ∧ (i ≤ k ∧ k ≤ (xs.length : Int) - 1) from h), opV_yes h, decide_eq_true h]
  · rw [if_neg (show ¬ (Loads xs ws ∧ (0 ≤ i ∧ i ≤ (xs.length : Int) - 1) ∧ (i ≤ k ∧ k ≤ (xs.length : Int) - 1)) from h), opV_no h, decide_eq_false h]

theorem implMeanOf_t {H : Heap} {a b : AV} {xs ws : List Int} {i k : Int} (ha : Ints H a xs) (hb : Ints H b ws) (hl : xs.length ≤ 1000000000) (hl' : ws.length ≤ 1000000000) :
    ACalls Try.prog fn_impl_MeanOf [a, b, .int .i64 i, .int .i64 k] H fun r H' => r = .tuple [opV (MeOk xs ws i k) (mnR xs ws i.toNat (k.toNat + 1)), .bool (decide (MeOk xs ws i k))] ∧ H' = H := by
  rw [← meX_t]; exact implMeanOf_ok ha hb hl hl'

theorem blO_le (xs ws : List Int) : (blO xs ws).length ≤ 8 := by
  unfold blO
  split
  · rename_i h
    have := h.bl_len; have := h.2.2.2.2; omega
  · simp

theorem implMean_at {H : Heap} {a b : AV} {xs ws : List Int} {s m : Nat} {k : Int} (ha : Ints H a xs) (hb : Ints H b ws) (hL : Loads xs ws) (h1 : s < m) (h2 : m ≤ xs.length) (hk : k = (m : Int) - 1) :
    ACalls Try.prog fn_impl_MeanOf [a, b, .int .i64 (s : Int), .int .i64 k] H fun r H' => r = .tuple [frV (mnR xs ws s m), .bool true] ∧ H' = H := by
  have hl := hL.2.2.1
  have hn := hL.2.2.2.2
  have hM : MeOk xs ws (s : Int) k := ⟨hL, by omega, by omega⟩
  have := implMeanOf_t (i := (s : Int)) (k := k) ha hb (by omega) (by omega)
  rw [opV_yes hM, decide_eq_true hM, show ((s : Int)).toNat = s by omega, show k.toNat + 1 = m by omega] at this
  exact this

theorem implMean_w {A : Heap} {X : List Nat} {S : Sig} {H0 H : Heap} {a b : AV} {xs ws : List Int} {s m : Nat} {k : Int} (hH0 : SOk A X S H0.size H0) (hg : ∀ id, id < H0.size → H.get id = H0.get id) (ha : Has S a 1 xs.length (ints xs)) (hb : Has S b 1 ws.length (ints ws)) (hL : Loads xs ws) (h1 : s < m) (h2 : m ≤ xs.length) (hk : k = (m : Int) - 1) :
    ACalls Try.prog fn_impl_MeanOf [a, b, .int .i64 (s : Int), .int .i64 k] H fun r H' => r = .tuple [frV (mnR xs ws s m), .bool true] ∧ H' = H :=
  acalls_vals (hH0.ints ha) hg (by omega) fun ha' => acalls_vals (hH0.ints hb) hg (by have := hL.2.2.1; omega) fun hb' => implMean_at ha' hb' hL h1 h2 hk

end Go.Rx.Try
