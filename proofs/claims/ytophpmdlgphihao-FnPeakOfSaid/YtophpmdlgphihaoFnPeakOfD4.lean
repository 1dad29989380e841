import Derived.Test.YtophpmdlgphihaoFnPeakOfD3
namespace Go.Rx.Try
open Go.Proofs
set_option maxRecDepth 100000
set_option maxHeartbeats 8000000
set_option linter.unusedSimpArgs false
set_option linter.unusedVariables false

theorem specPool_ok {H : Heap} {a b : AV} {xs ws : List Int} (ha : Ints H a xs) (hb : Ints H b ws) (hL : Loads xs ws) :
    ACalls Try.prog fn_spec_pool [a, b] H fun r H' => OwnI H H' r (blL xs ws) ∧ Le H H' := by
  refine own_front ?_
  have hl := hL.2.2.1
  have hn := hL.2.2.2.2
  refine code_spec_pool.go [.roI a xs.length xs, .roI b ws.length ws] ⟨⟨rfl, ha⟩, ⟨rfl, hb⟩, trivial⟩ (by simp) ?_
  unfold mc_spec_pool
  (repeat (first | refine gst (hk := ?_) | (with_reducible first | (refine gc_drw (h := ?_); intro _) | (refine gc_drw2 (h := ?_); intro _)) | (show GO _ _ _ _ _ (⟨some _, none, _⟩ :: _) _; first | refine go_op (hk := ?_) | (refine go_nw (hk := ?_); intro u; try simp only [llc, lln, lna, lza]) | (refine go_np (hk := ?_); intro id)) | (show GD _ _ _ _ _ _ _ (⟨some _, none, _⟩ :: _) _; first | refine gd_op (hk := ?_) | (refine gd_nw (hk := ?_); intro u; try simp only [llc, lln, lna, lza])) | (show GD2 _ _ _ _ _ _ _ _ _ _ _ _ _ _; first | refine gd2_nil rfl ?_ | refine gd2_op (hk := ?_) | (refine gd2_nw (hk := ?_); intro u; try simp only [llc, lln, lna, lza]) | refine gd2_l (hk := ?_) | refine gd2_lp (hk := ?_) | (refine gd2_newp (hk := ?_); intro id) | refine gd2_st (hk := ?_) | (refine gd2_bsl rfl rfl ?_; intro u; try simp only [llc, lln, lna, lza]) | (refine gd2_a (hk := ?_); intro u; try simp only [llc, lln, lna, lza])) | (show GO _ _ _ _ _ (⟨none, none, _⟩ :: _) _; refine go_st (hk := ?_)) | (show GD _ _ _ _ _ _ _ (⟨none, none, _⟩ :: _) _; refine gd_st (hk := ?_)) | (show GO _ _ _ _ _ (⟨_, some _, _⟩ :: _) _; first | refine go_in (hk := ?_) | refine go_out (hk := ?_) | refine go_void (hk := ?_)) | (show GK _ _ _ _ (blockK _ _ _); refine gk_past rfl ?_) | (show GC _ _ _ _ _ (.cond _ _ _) _; first | refine gc_yes (h1 := ?_) | refine gc_no (h1 := ?_))))
  refine gc_preW (v := u) (n := 0) (by exact Sel.auto) fun hu0 => ?_
  refine gc_loop (γ := Nat × AV × List Int) (fun g => [(0, a), (1, b), (5, preW g.2.1 (poS (rS xs ws) (rW ws) g.1).length), (6, .int .i64 (g.1 : Int))]) (fun g => [.rwI g.2.1 g.2.2.length g.2.2, .roI a xs.length xs, .roI b ws.length ws]) (fun g => g.1 ≤ xs.length ∧ g.2.2.take (poS (rS xs ws) (rW ws) g.1).length = stI (poS (rS xs ws) (rW ws) g.1)) (fun g => xs.length - g.1) (0, u, []) ⟨Nat.zero_le _, rfl⟩ (hE := by rw [show (poS (rS xs ws) (rW ws) 0).length = 0 from rfl, hu0]; (repeat (refine Cov.cons (by exact rfl) ?_)); exact Cov.nil) (hb := ?_)
  rintro ⟨k, u1, zs⟩ ⟨hk, hzs⟩ I ν m hk2
  simp only at hk hzs hk2 ⊢
  have hbk := (poS_ok (S := rS xs ws) hL.asc hk).1
  have hlen := hbk.len
  have hsl := stI_len (poS (rS xs ws) (rW ws) k)
  have hzl : (poS (rS xs ws) (rW ws) k).length ≤ zs.length := by
    have := congrArg List.length hzs
    rw [List.length_take, hsl] at this; omega
  (repeat (first | refine gst (hk := ?_) | (with_reducible first | (refine gc_drw (h := ?_); intro _) | (refine gc_drw2 (h := ?_); intro _)) | (show GO _ _ _ _ _ (⟨some _, none, _⟩ :: _) _; first | refine go_op (hk := ?_) | (refine go_nw (hk := ?_); intro u; try simp only [llc, lln, lna, lza]) | (refine go_np (hk := ?_); intro id)) | (show GD _ _ _ _ _ _ _ (⟨some _, none, _⟩ :: _) _; first | refine gd_op (hk := ?_) | (refine gd_nw (hk := ?_); intro u; try simp only [llc, lln, lna, lza])) | (show GD2 _ _ _ _ _ _ _ _ _ _ _ _ _ _; first | refine gd2_nil rfl ?_ | refine gd2_op (hk := ?_) | (refine gd2_nw (hk := ?_); intro u; try simp only [llc, lln, lna, lza]) | refine gd2_l (hk := ?_) | refine gd2_lp (hk := ?_) | (refine gd2_newp (hk := ?_); intro id) | refine gd2_st (hk := ?_) | (refine gd2_bsl rfl rfl ?_; intro u; try simp only [llc, lln, lna, lza]) | (refine gd2_a (hk := ?_); intro u; try simp only [llc, lln, lna, lza])) | (show GO _ _ _ _ _ (⟨none, none, _⟩ :: _) _; refine go_st (hk := ?_)) | (show GD _ _ _ _ _ _ _ (⟨none, none, _⟩ :: _) _; refine gd_st (hk := ?_)) | (show GO _ _ _ _ _ (⟨_, some _, _⟩ :: _) _; first | refine go_in (hk := ?_) | refine go_out (hk := ?_) | refine go_void (hk := ?_)) | (show GK _ _ _ _ (blockK _ _ _); refine gk_past rfl ?_) | (show GC _ _ _ _ _ (.cond _ _ _) _; first | refine gc_yes (h1 := ?_) | refine gc_no (h1 := ?_))))
  refine gc_cond rfl (fun h => ?_) (fun h => ?_)
  · have hk3 : ∀ (v : AV) (zs : List Int), zs.take (poS (rS xs ws) (rW ws) (k + 1)).length = stI (poS (rS xs ws) (rW ws) (k + 1)) → _ := fun v zs hz => hk2 (k + 1, v, zs) ⟨by dsimp only; omega, hz⟩ (by dsimp only; omega)
    have hpos : poS (rS xs ws) (rW ws) (k + 1) = popS (rS xs ws) (rW ws) (k + 1) (k :: poS (rS xs ws) (rW ws) k) := rfl
    have hB : Bks (rS xs ws) (rW ws) (k :: poS (rS xs ws) (rW ws) k) (k + 1) := by
      refine ⟨by omega, fun t h1 h2 => ?_, hbk⟩
      have w := hL.asc k (by omega)
      have q := mnA_mul (S := rS xs ws) w
      rcases Nat.lt_or_ge k t with h3 | h3
      · obtain rfl : t = k + 1 := by omega
        grind
      · obtain rfl : t = k := by omega
        grind
    simp only at hk3
    generalize hst : poS (rS xs ws) (rW ws) k = st at *
    (repeat (first | refine gst (hk := ?_) | (with_reducible first | (refine gc_drw (h := ?_); intro _) | (refine gc_drw2 (h := ?_); intro _)) | (show GO _ _ _ _ _ (⟨some _, none, _⟩ :: _) _; first | refine go_op (hk := ?_) | (refine go_nw (hk := ?_); intro u; try simp only [llc, lln, lna, lza]) | (refine go_np (hk := ?_); intro id)) | (show GD _ _ _ _ _ _ _ (⟨some _, none, _⟩ :: _) _; first | refine gd_op (hk := ?_) | (refine gd_nw (hk := ?_); intro u; try simp only [llc, lln, lna, lza])) | (show GD2 _ _ _ _ _ _ _ _ _ _ _ _ _ _; first | refine gd2_nil rfl ?_ | refine gd2_op (hk := ?_) | (refine gd2_nw (hk := ?_); intro u; try simp only [llc, lln, lna, lza]) | refine gd2_l (hk := ?_) | refine gd2_lp (hk := ?_) | (refine gd2_newp (hk := ?_); intro id) | refine gd2_st (hk := ?_) | (refine gd2_bsl rfl rfl ?_; intro u; try simp only [llc, lln, lna, lza]) | (refine gd2_a (hk := ?_); intro u; try simp only [llc, lln, lna, lza])) | (show GO _ _ _ _ _ (⟨none, none, _⟩ :: _) _; refine go_st (hk := ?_)) | (show GD _ _ _ _ _ _ _ (⟨none, none, _⟩ :: _) _; refine gd_st (hk := ?_)) | (show GO _ _ _ _ _ (⟨_, some _, _⟩ :: _) _; first | refine go_in (hk := ?_) | refine go_out (hk := ?_) | refine go_void (hk := ?_)) | (show GK _ _ _ _ (blockK _ _ _); refine gk_past rfl ?_) | (show GC _ _ _ _ _ (.cond _ _ _) _; first | refine gc_yes (h1 := ?_) | refine gc_no (h1 := ?_))))
    refine go_new rfl (stp_appp (h := st.length) rfl rfl (by exact Sel.auto) (by exact Has.auto) hzl (by omega) (by omega)) ?_
    intro u2
    rw [hzs, show stI st ++ [(k : Int)] = stI (k :: st) from rfl]
    (repeat (first | refine gst (hk := ?_) | (with_reducible first | (refine gc_drw (h := ?_); intro _) | (refine gc_drw2 (h := ?_); intro _)) | (show GO _ _ _ _ _ (⟨some _, none, _⟩ :: _) _; first | refine go_op (hk := ?_) | (refine go_nw (hk := ?_); intro u; try simp only [llc, lln, lna, lza]) | (refine go_np (hk := ?_); intro id)) | (show GD _ _ _ _ _ _ _ (⟨some _, none, _⟩ :: _) _; first | refine gd_op (hk := ?_) | (refine gd_nw (hk := ?_); intro u; try simp only [llc, lln, lna, lza])) | (show GD2 _ _ _ _ _ _ _ _ _ _ _ _ _ _; first | refine gd2_nil rfl ?_ | refine gd2_op (hk := ?_) | (refine gd2_nw (hk := ?_); intro u; try simp only [llc, lln, lna, lza]) | refine gd2_l (hk := ?_) | refine gd2_lp (hk := ?_) | (refine gd2_newp (hk := ?_); intro id) | refine gd2_st (hk := ?_) | (refine gd2_bsl rfl rfl ?_; intro u; try simp only [llc, lln, lna, lza]) | (refine gd2_a (hk := ?_); intro u; try simp only [llc, lln, lna, lza])) | (show GO _ _ _ _ _ (⟨none, none, _⟩ :: _) _; refine go_st (hk := ?_)) | (show GD _ _ _ _ _ _ _ (⟨none, none, _⟩ :: _) _; refine gd_st (hk := ?_)) | (show GO _ _ _ _ _ (⟨_, some _, _⟩ :: _) _; first | refine go_in (hk := ?_) | refine go_out (hk := ?_) | refine go_void (hk := ?_)) | (show GK _ _ _ _ (blockK _ _ _); refine gk_past rfl ?_) | (show GC _ _ _ _ _ (.cond _ _ _) _; first | refine gc_yes (h1 := ?_) | refine gc_no (h1 := ?_))))
    refine gc_preW (v := u2) (n := st.length + 1) (by exact Sel.auto) fun hu2 => ?_
    refine gc_loop (γ := List Nat) (fun g => [(0, a), (1, b), (5, preW u2 g.length), (6, .int .i64 (k : Int))]) (fun g => [.rwI u2 (st.length + 1) (stI (k :: st)), .roI a xs.length xs, .roI b ws.length ws]) (fun g => popS (rS xs ws) (rW ws) (k + 1) g = poS (rS xs ws) (rW ws) (k + 1) ∧ Bks (rS xs ws) (rW ws) g (k + 1) ∧ g.length ≤ st.length + 1 ∧ (stI (k :: st)).take g.length = stI g) (fun g => g.length) (k :: st) ⟨hpos.symm, hB, by simp, by rw [← stI_len (k :: st), List.take_length]⟩ (hE := by rw [List.length_cons, hu2]; (repeat (refine Cov.cons (by exact rfl) ?_)); exact Cov.nil) (hb := ?_)
    rintro s ⟨hp, hbs, hle, htk⟩ I2 ν2 m2 hk4
    have hls := stI_len s
    have hlk := hbs.len
    (repeat (first | refine gst (hk := ?_) | (with_reducible first | (refine gc_drw (h := ?_); intro _) | (refine gc_drw2 (h := ?_); intro _)) | (show GO _ _ _ _ _ (⟨some _, none, _⟩ :: _) _; first | refine go_op (hk := ?_) | (refine go_nw (hk := ?_); intro u; try simp only [llc, lln, lna, lza]) | (refine go_np (hk := ?_); intro id)) | (show GD _ _ _ _ _ _ _ (⟨some _, none, _⟩ :: _) _; first | refine gd_op (hk := ?_) | (refine gd_nw (hk := ?_); intro u; try simp only [llc, lln, lna, lza])) | (show GD2 _ _ _ _ _ _ _ _ _ _ _ _ _ _; first | refine gd2_nil rfl ?_ | refine gd2_op (hk := ?_) | (refine gd2_nw (hk := ?_); intro u; try simp only [llc, lln, lna, lza]) | refine gd2_l (hk := ?_) | refine gd2_lp (hk := ?_) | (refine gd2_newp (hk := ?_); intro id) | refine gd2_st (hk := ?_) | (refine gd2_bsl rfl rfl ?_; intro u; try simp only [llc, lln, lna, lza]) | (refine gd2_a (hk := ?_); intro u; try simp only [llc, lln, lna, lza])) | (show GO _ _ _ _ _ (⟨none, none, _⟩ :: _) _; refine go_st (hk := ?_)) | (show GD _ _ _ _ _ _ _ (⟨none, none, _⟩ :: _) _; refine gd_st (hk := ?_)) | (show GO _ _ _ _ _ (⟨_, some _, _⟩ :: _) _; first | refine go_in (hk := ?_) | refine go_out (hk := ?_) | refine go_void (hk := ?_)) | (show GK _ _ _ _ (blockK _ _ _); refine gk_past rfl ?_) | (show GC _ _ _ _ _ (.cond _ _ _) _; first | refine gc_yes (h1 := ?_) | refine gc_no (h1 := ?_))))
    refine go_is rfl (stp_lenp (h := s.length) rfl (by exact Sel.auto) hle) ?_
    (repeat (first | refine gst (hk := ?_) | (with_reducible first | (refine gc_drw (h := ?_); intro _) | (refine gc_drw2 (h := ?_); intro _)) | (show GO _ _ _ _ _ (⟨some _, none, _⟩ :: _) _; first | refine go_op (hk := ?_) | (refine go_nw (hk := ?_); intro u; try simp only [llc, lln, lna, lza]) | (refine go_np (hk := ?_); intro id)) | (show GD _ _ _ _ _ _ _ (⟨some _, none, _⟩ :: _) _; first | refine gd_op (hk := ?_) | (refine gd_nw (hk := ?_); intro u; try simp only [llc, lln, lna, lza])) | (show GD2 _ _ _ _ _ _ _ _ _ _ _ _ _ _; first | refine gd2_nil rfl ?_ | refine gd2_op (hk := ?_) | (refine gd2_nw (hk := ?_); intro u; try simp only [llc, lln, lna, lza]) | refine gd2_l (hk := ?_) | refine gd2_lp (hk := ?_) | (refine gd2_newp (hk := ?_); intro id) | refine gd2_st (hk := ?_) | (refine gd2_bsl rfl rfl ?_; intro u; try simp only [llc, lln, lna, lza]) | (refine gd2_a (hk := ?_); intro u; try simp only [llc, lln, lna, lza])) | (show GO _ _ _ _ _ (⟨none, none, _⟩ :: _) _; refine go_st (hk := ?_)) | (show GD _ _ _ _ _ _ _ (⟨none, none, _⟩ :: _) _; refine gd_st (hk := ?_)) | (show GO _ _ _ _ _ (⟨_, some _, _⟩ :: _) _; first | refine go_in (hk := ?_) | refine go_out (hk := ?_) | refine go_void (hk := ?_)) | (show GK _ _ _ _ (blockK _ _ _); refine gk_past rfl ?_) | (show GC _ _ _ _ _ (.cond _ _ _) _; first | refine gc_yes (h1 := ?_) | refine gc_no (h1 := ?_))))
    refine gc_cond rfl (fun h2 => ?_) (fun h2 => ?_)
    · match s, hbs, hp with
      | [], _, _ => simp at h2
      | [_], _, _ => simp at h2
      | c :: d :: r, hbs, hp =>
        obtain ⟨n1, n2⟩ := nth_stI2 (a := c) (b := d) (r := r)
        have hc1 := hbs.1
        have hc2 := hbs.2.2.1
        simp only [List.length_cons] at hls hlk h2 hle htk hk4 ⊢
        have hnt : ∀ i, i < r.length + 1 + 1 → nth (stI (k :: st)) i = nth (stI (c :: d :: r)) i := fun i hi => by rw [← htk, nth_take hi]
        have hlk2 : (stI (k :: st)).length = st.length + 1 := stI_len (k :: st)
        (repeat (first | refine gst (hk := ?_) | (with_reducible first | (refine gc_drw (h := ?_); intro _) | (refine gc_drw2 (h := ?_); intro _)) | (show GO _ _ _ _ _ (⟨some _, none, _⟩ :: _) _; first | refine go_op (hk := ?_) | (refine go_nw (hk := ?_); intro u; try simp only [llc, lln, lna, lza]) | (refine go_np (hk := ?_); intro id)) | (show GD _ _ _ _ _ _ _ (⟨some _, none, _⟩ :: _) _; first | refine gd_op (hk := ?_) | (refine gd_nw (hk := ?_); intro u; try simp only [llc, lln, lna, lza])) | (show GD2 _ _ _ _ _ _ _ _ _ _ _ _ _ _; first | refine gd2_nil rfl ?_ | refine gd2_op (hk := ?_) | (refine gd2_nw (hk := ?_); intro u; try simp only [llc, lln, lna, lza]) | refine gd2_l (hk := ?_) | refine gd2_lp (hk := ?_) | (refine gd2_newp (hk := ?_); intro id) | refine gd2_st (hk := ?_) | (refine gd2_bsl rfl rfl ?_; intro u; try simp only [llc, lln, lna, lza]) | (refine gd2_a (hk := ?_); intro u; try simp only [llc, lln, lna, lza])) | (show GO _ _ _ _ _ (⟨none, none, _⟩ :: _) _; refine go_st (hk := ?_)) | (show GD _ _ _ _ _ _ _ (⟨none, none, _⟩ :: _) _; refine gd_st (hk := ?_)) | (show GO _ _ _ _ _ (⟨_, some _, _⟩ :: _) _; first | refine go_in (hk := ?_) | refine go_out (hk := ?_) | refine go_void (hk := ?_)) | (show GK _ _ _ _ (blockK _ _ _); refine gk_past rfl ?_) | (show GC _ _ _ _ _ (.cond _ _ _) _; first | refine gc_yes (h1 := ?_) | refine gc_no (h1 := ?_))))
        refine go_is rfl (stp_lenp (h := r.length + 1 + 1) rfl (by exact Sel.auto) hle) ?_
        (repeat (first | refine gst (hk := ?_) | (with_reducible first | (refine gc_drw (h := ?_); intro _) | (refine gc_drw2 (h := ?_); intro _)) | (show GO _ _ _ _ _ (⟨some _, none, _⟩ :: _) _; first | refine go_op (hk := ?_) | (refine go_nw (hk := ?_); intro u; try simp only [llc, lln, lna, lza]) | (refine go_np (hk := ?_); intro id)) | (show GD _ _ _ _ _ _ _ (⟨some _, none, _⟩ :: _) _; first | refine gd_op (hk := ?_) | (refine gd_nw (hk := ?_); intro u; try simp only [llc, lln, lna, lza])) | (show GD2 _ _ _ _ _ _ _ _ _ _ _ _ _ _; first | refine gd2_nil rfl ?_ | refine gd2_op (hk := ?_) | (refine gd2_nw (hk := ?_); intro u; try simp only [llc, lln, lna, lza]) | refine gd2_l (hk := ?_) | refine gd2_lp (hk := ?_) | (refine gd2_newp (hk := ?_); intro id) | refine gd2_st (hk := ?_) | (refine gd2_bsl rfl rfl ?_; intro u; try simp only [llc, lln, lna, lza]) | (refine gd2_a (hk := ?_); intro u; try simp only [llc, lln, lna, lza])) | (show GO _ _ _ _ _ (⟨none, none, _⟩ :: _) _; refine go_st (hk := ?_)) | (show GD _ _ _ _ _ _ _ (⟨none, none, _⟩ :: _) _; refine gd_st (hk := ?_)) | (show GO _ _ _ _ _ (⟨_, some _, _⟩ :: _) _; first | refine go_in (hk := ?_) | refine go_out (hk := ?_) | refine go_void (hk := ?_)) | (show GK _ _ _ _ (blockK _ _ _); refine gk_past rfl ?_) | (show GC _ _ _ _ _ (.cond _ _ _) _; first | refine gc_yes (h1 := ?_) | refine gc_no (h1 := ?_))))
        refine gc_drw4n (qtTab [(fn_spec_mean, dOne [a, b, .int .i64 (d : Int), .int .i64 ((c : Int) - 1)] (frV (mnR xs ws d c)))]) (fun H0 H hH0 hg => qtTab_cons (dOne_ok code_spec_mean.callable (dMean_ok hH0 hg (by exact Has.auto) (by exact Has.auto) hL (by omega) (by omega) rfl)) qtTab_nil) (fun H0 hH0 => ?_)
        repeat (refine gd4_op (hk := ?_))
        refine gd4_is rfl (stp_ixap (i := r.length) rfl rfl (by omega) (by exact Sel.auto) hle (by omega)) ?_
        refine gd4_ld (u := u2.elem r.length) rfl (stp_ld (i := r.length)) ?_
        repeat (refine gd4_op (hk := ?_))
        refine gd4_is rfl (stp_ixap (i := r.length + 1) rfl rfl (by omega) (by exact Sel.auto) hle (by omega)) ?_
        refine gd4_ld (u := u2.elem (r.length + 1)) rfl (stp_ld (i := r.length + 1)) ?_
        rw [hnt _ (by omega), hnt _ (by omega), n1, n2]
        repeat (refine gd4_op (hk := ?_))
        refine gd4_call rfl dOne_is ?_
        refine gd4_new ?_
        refine gd4_st rfl stp_stag ?_
        have b1 := vid_old (v := u2) (es := 1) (n := st.length + 1) (cs := ints (stI (k :: st))) (i := r.length) hH0 (by exact Has.auto)
        have b2 := vid_old (v := u2) (es := 1) (n := st.length + 1) (cs := ints (stI (k :: st))) (i := r.length + 1) hH0 (by exact Has.auto)
        refine gd4_nil (pairs_on rfl rfl b1 (pairs_on rfl rfl b2 trivial)) (by simp [vid]) ?_
        (repeat (first | refine gst (hk := ?_) | (with_reducible first | (refine gc_drw (h := ?_); intro _) | (refine gc_drw2 (h := ?_); intro _)) | (show GO _ _ _ _ _ (⟨some _, none, _⟩ :: _) _; first | refine go_op (hk := ?_) | (refine go_nw (hk := ?_); intro u; try simp only [llc, lln, lna, lza]) | (refine go_np (hk := ?_); intro id)) | (show GD _ _ _ _ _ _ _ (⟨some _, none, _⟩ :: _) _; first | refine gd_op (hk := ?_) | (refine gd_nw (hk := ?_); intro u; try simp only [llc, lln, lna, lza])) | (show GD2 _ _ _ _ _ _ _ _ _ _ _ _ _ _; first | refine gd2_nil rfl ?_ | refine gd2_op (hk := ?_) | (refine gd2_nw (hk := ?_); intro u; try simp only [llc, lln, lna, lza]) | refine gd2_l (hk := ?_) | refine gd2_lp (hk := ?_) | (refine gd2_newp (hk := ?_); intro id) | refine gd2_st (hk := ?_) | (refine gd2_bsl rfl rfl ?_; intro u; try simp only [llc, lln, lna, lza]) | (refine gd2_a (hk := ?_); intro u; try simp only [llc, lln, lna, lza])) | (show GO _ _ _ _ _ (⟨none, none, _⟩ :: _) _; refine go_st (hk := ?_)) | (show GD _ _ _ _ _ _ _ (⟨none, none, _⟩ :: _) _; refine gd_st (hk := ?_)) | (show GO _ _ _ _ _ (⟨_, some _, _⟩ :: _) _; first | refine go_in (hk := ?_) | refine go_out (hk := ?_) | refine go_void (hk := ?_)) | (show GK _ _ _ _ (blockK _ _ _); refine gk_past rfl ?_) | (show GC _ _ _ _ _ (.cond _ _ _) _; first | refine gc_yes (h1 := ?_) | refine gc_no (h1 := ?_))))
        refine go_is rfl (stp_ixap (i := r.length + 1) rfl rfl (by omega) (by exact Sel.auto) hle (by omega)) ?_
        (repeat (first | refine gst (hk := ?_) | (with_reducible first | (refine gc_drw (h := ?_); intro _) | (refine gc_drw2 (h := ?_); intro _)) | (show GO _ _ _ _ _ (⟨some _, none, _⟩ :: _) _; first | refine go_op (hk := ?_) | (refine go_nw (hk := ?_); intro u; try simp only [llc, lln, lna, lza]) | (refine go_np (hk := ?_); intro id)) | (show GD _ _ _ _ _ _ _ (⟨some _, none, _⟩ :: _) _; first | refine gd_op (hk := ?_) | (refine gd_nw (hk := ?_); intro u; try simp only [llc, lln, lna, lza])) | (show GD2 _ _ _ _ _ _ _ _ _ _ _ _ _ _; first | refine gd2_nil rfl ?_ | refine gd2_op (hk := ?_) | (refine gd2_nw (hk := ?_); intro u; try simp only [llc, lln, lna, lza]) | refine gd2_l (hk := ?_) | refine gd2_lp (hk := ?_) | (refine gd2_newp (hk := ?_); intro id) | refine gd2_st (hk := ?_) | (refine gd2_bsl rfl rfl ?_; intro u; try simp only [llc, lln, lna, lza]) | (refine gd2_a (hk := ?_); intro u; try simp only [llc, lln, lna, lza])) | (show GO _ _ _ _ _ (⟨none, none, _⟩ :: _) _; refine go_st (hk := ?_)) | (show GD _ _ _ _ _ _ _ (⟨none, none, _⟩ :: _) _; refine gd_st (hk := ?_)) | (show GO _ _ _ _ _ (⟨_, some _, _⟩ :: _) _; first | refine go_in (hk := ?_) | refine go_out (hk := ?_) | refine go_void (hk := ?_)) | (show GK _ _ _ _ (blockK _ _ _); refine gk_past rfl ?_) | (show GC _ _ _ _ _ (.cond _ _ _) _; first | refine gc_yes (h1 := ?_) | refine gc_no (h1 := ?_))))
        rw [hnt _ (by omega), n2]
        refine go_callp rfl code_spec_mean.callable (fun H hH => specMean_ok (e := k + 1) (hH.ints (by exact Has.auto)) (hH.ints (by exact Has.auto)) hL (by omega) (by omega) (by omega)) ?_
        (repeat (first | refine gst (hk := ?_) | (with_reducible first | (refine gc_drw (h := ?_); intro _) | (refine gc_drw2 (h := ?_); intro _)) | (show GO _ _ _ _ _ (⟨some _, none, _⟩ :: _) _; first | refine go_op (hk := ?_) | (refine go_nw (hk := ?_); intro u; try simp only [llc, lln, lna, lza]) | (refine go_np (hk := ?_); intro id)) | (show GD _ _ _ _ _ _ _ (⟨some _, none, _⟩ :: _) _; first | refine gd_op (hk := ?_) | (refine gd_nw (hk := ?_); intro u; try simp only [llc, lln, lna, lza])) | (show GD2 _ _ _ _ _ _ _ _ _ _ _ _ _ _; first | refine gd2_nil rfl ?_ | refine gd2_op (hk := ?_) | (refine gd2_nw (hk := ?_); intro u; try simp only [llc, lln, lna, lza]) | refine gd2_l (hk := ?_) | refine gd2_lp (hk := ?_) | (refine gd2_newp (hk := ?_); intro id) | refine gd2_st (hk := ?_) | (refine gd2_bsl rfl rfl ?_; intro u; try simp only [llc, lln, lna, lza]) | (refine gd2_a (hk := ?_); intro u; try simp only [llc, lln, lna, lza])) | (show GO _ _ _ _ _ (⟨none, none, _⟩ :: _) _; refine go_st (hk := ?_)) | (show GD _ _ _ _ _ _ _ (⟨none, none, _⟩ :: _) _; refine gd_st (hk := ?_)) | (show GO _ _ _ _ _ (⟨_, some _, _⟩ :: _) _; first | refine go_in (hk := ?_) | refine go_out (hk := ?_) | refine go_void (hk := ?_)) | (show GK _ _ _ _ (blockK _ _ _); refine gk_past rfl ?_) | (show GC _ _ _ _ _ (.cond _ _ _) _; first | refine gc_yes (h1 := ?_) | refine gc_no (h1 := ?_))))
        refine go_callp rfl code_spec_less.callable (fun H hH => specLess_ok (hL.fits (by omega) (by omega) (by omega) (by omega))) ?_
        (repeat (first | refine gst (hk := ?_) | (with_reducible first | (refine gc_drw (h := ?_); intro _) | (refine gc_drw2 (h := ?_); intro _)) | (show GO _ _ _ _ _ (⟨some _, none, _⟩ :: _) _; first | refine go_op (hk := ?_) | (refine go_nw (hk := ?_); intro u; try simp only [llc, lln, lna, lza]) | (refine go_np (hk := ?_); intro id)) | (show GD _ _ _ _ _ _ _ (⟨some _, none, _⟩ :: _) _; first | refine gd_op (hk := ?_) | (refine gd_nw (hk := ?_); intro u; try simp only [llc, lln, lna, lza])) | (show GD2 _ _ _ _ _ _ _ _ _ _ _ _ _ _; first | refine gd2_nil rfl ?_ | refine gd2_op (hk := ?_) | (refine gd2_nw (hk := ?_); intro u; try simp only [llc, lln, lna, lza]) | refine gd2_l (hk := ?_) | refine gd2_lp (hk := ?_) | (refine gd2_newp (hk := ?_); intro id) | refine gd2_st (hk := ?_) | (refine gd2_bsl rfl rfl ?_; intro u; try simp only [llc, lln, lna, lza]) | (refine gd2_a (hk := ?_); intro u; try simp only [llc, lln, lna, lza])) | (show GO _ _ _ _ _ (⟨none, none, _⟩ :: _) _; refine go_st (hk := ?_)) | (show GD _ _ _ _ _ _ _ (⟨none, none, _⟩ :: _) _; refine gd_st (hk := ?_)) | (show GO _ _ _ _ _ (⟨_, some _, _⟩ :: _) _; first | refine go_in (hk := ?_) | refine go_out (hk := ?_) | refine go_void (hk := ?_)) | (show GK _ _ _ _ (blockK _ _ _); refine gk_past rfl ?_) | (show GC _ _ _ _ _ (.cond _ _ _) _; first | refine gc_yes (h1 := ?_) | refine gc_no (h1 := ?_))))
        refine gc_cond rfl (fun h3 => ?_) (fun h3 => ?_)
        · have hlt : mnA (rS xs ws) (rW ws) d c < mnA (rS xs ws) (rW ws) c (k + 1) := by rw [mnR_mnA, mnR_mnA]; exact h3
          have he : popS (rS xs ws) (rW ws) (k + 1) (c :: d :: r) = c :: d :: r := if_pos hlt
          rw [he] at hp
          rw [← hp] at hk3
          have hk5 := hk3 u2 (stI (k :: st)) htk
          rw [hlk2] at hk5
          (repeat (first | refine gst (hk := ?_) | (with_reducible first | (refine gc_drw (h := ?_); intro _) | (refine gc_drw2 (h := ?_); intro _)) | (show GO _ _ _ _ _ (⟨some _, none, _⟩ :: _) _; first | refine go_op (hk := ?_) | (refine go_nw (hk := ?_); intro u; try simp only [llc, lln, lna, lza]) | (refine go_np (hk := ?_); intro id)) | (show GD _ _ _ _ _ _ _ (⟨some _, none, _⟩ :: _) _; first | refine gd_op (hk := ?_) | (refine gd_nw (hk := ?_); intro u; try simp only [llc, lln, lna, lza])) | (show GD2 _ _ _ _ _ _ _ _ _ _ _ _ _ _; first | refine gd2_nil rfl ?_ | refine gd2_op (hk := ?_) | (refine gd2_nw (hk := ?_); intro u; try simp only [llc, lln, lna, lza]) | refine gd2_l (hk := ?_) | refine gd2_lp (hk := ?_) | (refine gd2_newp (hk := ?_); intro id) | refine gd2_st (hk := ?_) | (refine gd2_bsl rfl rfl ?_; intro u; try simp only [llc, lln, lna, lza]) | (refine gd2_a (hk := ?_); intro u; try simp only [llc, lln, lna, lza])) | (show GO _ _ _ _ _ (⟨none, none, _⟩ :: _) _; refine go_st (hk := ?_)) | (show GD _ _ _ _ _ _ _ (⟨none, none, _⟩ :: _) _; refine gd_st (hk := ?_)) | (show GO _ _ _ _ _ (⟨_, some _, _⟩ :: _) _; first | refine go_in (hk := ?_) | refine go_out (hk := ?_) | refine go_void (hk := ?_)) | (show GK _ _ _ _ (blockK _ _ _); refine gk_past rfl ?_) | (show GC _ _ _ _ _ (.cond _ _ _) _; first | refine gc_yes (h1 := ?_) | refine gc_no (h1 := ?_))))
          exact gk_next hk5
        · have hlt : ¬ mnA (rS xs ws) (rW ws) d c < mnA (rS xs ws) (rW ws) c (k + 1) := by rw [mnR_mnA, mnR_mnA]; exact h3
          have he : popS (rS xs ws) (rW ws) (k + 1) (c :: d :: r) = popS (rS xs ws) (rW ws) (k + 1) (d :: r) := if_neg hlt
          rw [he] at hp
          have hj := hbs.join hL.asc (by omega) (Rat.not_lt.1 hlt)
          (repeat (first | refine gst (hk := ?_) | (with_reducible first | (refine gc_drw (h := ?_); intro _) | (refine gc_drw2 (h := ?_); intro _)) | (show GO _ _ _ _ _ (⟨some _, none, _⟩ :: _) _; first | refine go_op (hk := ?_) | (refine go_nw (hk := ?_); intro u; try simp only [llc, lln, lna, lza]) | (refine go_np (hk := ?_); intro id)) | (show GD _ _ _ _ _ _ _ (⟨some _, none, _⟩ :: _) _; first | refine gd_op (hk := ?_) | (refine gd_nw (hk := ?_); intro u; try simp only [llc, lln, lna, lza])) | (show GD2 _ _ _ _ _ _ _ _ _ _ _ _ _ _; first | refine gd2_nil rfl ?_ | refine gd2_op (hk := ?_) | (refine gd2_nw (hk := ?_); intro u; try simp only [llc, lln, lna, lza]) | refine gd2_l (hk := ?_) | refine gd2_lp (hk := ?_) | (refine gd2_newp (hk := ?_); intro id) | refine gd2_st (hk := ?_) | (refine gd2_bsl rfl rfl ?_; intro u; try simp only [llc, lln, lna, lza]) | (refine gd2_a (hk := ?_); intro u; try simp only [llc, lln, lna, lza])) | (show GO _ _ _ _ _ (⟨none, none, _⟩ :: _) _; refine go_st (hk := ?_)) | (show GD _ _ _ _ _ _ _ (⟨none, none, _⟩ :: _) _; refine gd_st (hk := ?_)) | (show GO _ _ _ _ _ (⟨_, some _, _⟩ :: _) _; first | refine go_in (hk := ?_) | refine go_out (hk := ?_) | refine go_void (hk := ?_)) | (show GK _ _ _ _ (blockK _ _ _); refine gk_past rfl ?_) | (show GC _ _ _ _ _ (.cond _ _ _) _; first | refine gc_yes (h1 := ?_) | refine gc_no (h1 := ?_))))
          refine go_is rfl (stp_slp (l := r.length + 1) rfl (by exact rfl) (by exact Sel.auto) hle (by omega)) ?_
          (repeat (first | refine gst (hk := ?_) | (with_reducible first | (refine gc_drw (h := ?_); intro _) | (refine gc_drw2 (h := ?_); intro _)) | (show GO _ _ _ _ _ (⟨some _, none, _⟩ :: _) _; first | refine go_op (hk := ?_) | (refine go_nw (hk := ?_); intro u; try simp only [llc, lln, lna, lza]) | (refine go_np (hk := ?_); intro id)) | (show GD _ _ _ _ _ _ _ (⟨some _, none, _⟩ :: _) _; first | refine gd_op (hk := ?_) | (refine gd_nw (hk := ?_); intro u; try simp only [llc, lln, lna, lza])) | (show GD2 _ _ _ _ _ _ _ _ _ _ _ _ _ _; first | refine gd2_nil rfl ?_ | refine gd2_op (hk := ?_) | (refine gd2_nw (hk := ?_); intro u; try simp only [llc, lln, lna, lza]) | refine gd2_l (hk := ?_) | refine gd2_lp (hk := ?_) | (refine gd2_newp (hk := ?_); intro id) | refine gd2_st (hk := ?_) | (refine gd2_bsl rfl rfl ?_; intro u; try simp only [llc, lln, lna, lza]) | (refine gd2_a (hk := ?_); intro u; try simp only [llc, lln, lna, lza])) | (show GO _ _ _ _ _ (⟨none, none, _⟩ :: _) _; refine go_st (hk := ?_)) | (show GD _ _ _ _ _ _ _ (⟨none, none, _⟩ :: _) _; refine gd_st (hk := ?_)) | (show GO _ _ _ _ _ (⟨_, some _, _⟩ :: _) _; first | refine go_in (hk := ?_) | refine go_out (hk := ?_) | refine go_void (hk := ?_)) | (show GK _ _ _ _ (blockK _ _ _); refine gk_past rfl ?_) | (show GC _ _ _ _ _ (.cond _ _ _) _; first | refine gc_yes (h1 := ?_) | refine gc_no (h1 := ?_))))
          refine gk_next (hk4 (d :: r) ⟨hp, hj, by simp only [List.length_cons]; omega, ?_⟩ (by simp only [List.length_cons]; omega))
          have := congrArg (List.take (r.length + 1)) htk
          rw [List.take_take, Nat.min_eq_left (by omega)] at this
          simp only [List.length_cons]
          rw [this, stI, List.take_append_of_le_length (by rw [stI_len]; simp)]
          exact List.take_of_length_le (by rw [stI_len]; simp)
    · have he : popS (rS xs ws) (rW ws) (k + 1) s = s := by
        match s, h2 with
        | [], _ => rfl
        | [_], _ => rfl
        | c :: d :: r, h2 => simp only [List.length_cons] at h2; omega
      rw [he] at hp
      rw [← hp] at hk3
      have hk5 := hk3 u2 (stI (k :: st)) htk
      rw [show (stI (k :: st)).length = st.length + 1 from stI_len (k :: st)] at hk5
      (repeat (first | refine gst (hk := ?_) | (with_reducible first | (refine gc_drw (h := ?_); intro _) | (refine gc_drw2 (h := ?_); intro _)) | (show GO _ _ _ _ _ (⟨some _, none, _⟩ :: _) _; first | refine go_op (hk := ?_) | (refine go_nw (hk := ?_); intro u; try simp only [llc, lln, lna, lza]) | (refine go_np (hk := ?_); intro id)) | (show GD _ _ _ _ _ _ _ (⟨some _, none, _⟩ :: _) _; first | refine gd_op (hk := ?_) | (refine gd_nw (hk := ?_); intro u; try simp only [llc, lln, lna, lza])) | (show GD2 _ _ _ _ _ _ _ _ _ _ _ _ _ _; first | refine gd2_nil rfl ?_ | refine gd2_op (hk := ?_) | (refine gd2_nw (hk := ?_); intro u; try simp only [llc, lln, lna, lza]) | refine gd2_l (hk := ?_) | refine gd2_lp (hk := ?_) | (refine gd2_newp (hk := ?_); intro id) | refine gd2_st (hk := ?_) | (refine gd2_bsl rfl rfl ?_; intro u; try simp only [llc, lln, lna, lza]) | (refine gd2_a (hk := ?_); intro u; try simp only [llc, lln, lna, lza])) | (show GO _ _ _ _ _ (⟨none, none, _⟩ :: _) _; refine go_st (hk := ?_)) | (show GD _ _ _ _ _ _ _ (⟨none, none, _⟩ :: _) _; refine gd_st (hk := ?_)) | (show GO _ _ _ _ _ (⟨_, some _, _⟩ :: _) _; first | refine go_in (hk := ?_) | refine go_out (hk := ?_) | refine go_void (hk := ?_)) | (show GK _ _ _ _ (blockK _ _ _); refine gk_past rfl ?_) | (show GC _ _ _ _ _ (.cond _ _ _) _; first | refine gc_yes (h1 := ?_) | refine gc_no (h1 := ?_))))
      exact gk_next hk5
  · obtain rfl : k = xs.length := by omega
    (repeat (first | refine gst (hk := ?_) | (with_reducible first | (refine gc_drw (h := ?_); intro _) | (refine gc_drw2 (h := ?_); intro _)) | (show GO _ _ _ _ _ (⟨some _, none, _⟩ :: _) _; first | refine go_op (hk := ?_) | (refine go_nw (hk := ?_); intro u; try simp only [llc, lln, lna, lza]) | (refine go_np (hk := ?_); intro id)) | (show GD _ _ _ _ _ _ _ (⟨some _, none, _⟩ :: _) _; first | refine gd_op (hk := ?_) | (refine gd_nw (hk := ?_); intro u; try simp only [llc, lln, lna, lza])) | (show GD2 _ _ _ _ _ _ _ _ _ _ _ _ _ _; first | refine gd2_nil rfl ?_ | refine gd2_op (hk := ?_) | (refine gd2_nw (hk := ?_); intro u; try simp only [llc, lln, lna, lza]) | refine gd2_l (hk := ?_) | refine gd2_lp (hk := ?_) | (refine gd2_newp (hk := ?_); intro id) | refine gd2_st (hk := ?_) | (refine gd2_bsl rfl rfl ?_; intro u; try simp only [llc, lln, lna, lza]) | (refine gd2_a (hk := ?_); intro u; try simp only [llc, lln, lna, lza])) | (show GO _ _ _ _ _ (⟨none, none, _⟩ :: _) _; refine go_st (hk := ?_)) | (show GD _ _ _ _ _ _ _ (⟨none, none, _⟩ :: _) _; refine gd_st (hk := ?_)) | (show GO _ _ _ _ _ (⟨_, some _, _⟩ :: _) _; first | refine go_in (hk := ?_) | refine go_out (hk := ?_) | refine go_void (hk := ?_)) | (show GK _ _ _ _ (blockK _ _ _); refine gk_past rfl ?_) | (show GC _ _ _ _ _ (.cond _ _ _) _; first | refine gc_yes (h1 := ?_) | refine gc_no (h1 := ?_))))
    exact gk_ret rfl fun H' hH => ⟨u1, zs, (poS (rS xs ws) (rW ws) xs.length).length, rfl, hzl, hzs, (hH.give (by exact Sel.auto)).1, hH.leE⟩

noncomputable def fiL (xs ws : List Int) : Nat → List Rat
  | 0 => []
  | k + 1 => fiL xs ws k ++ [fiR xs ws k]

theorem fiL_len (xs ws : List Int) : ∀ k, (fiL xs ws k).length = k
  | 0 => rfl
  | k + 1 => by rw [fiL, List.length_append, fiL_len]; rfl

theorem nth_fiL {xs ws : List Int} : ∀ {k j : Nat}, j < k → nthR (fiL xs ws k) j = fiR xs ws j
  | 0, j, h => absurd h (by omega)
  | k + 1, j, h => by
    rw [fiL]
    rcases Nat.lt_or_ge j k with h1 | h1
    · rw [nthR_app (by rw [fiL_len]; exact h1), nth_fiL h1]
    · have e : j = (fiL xs ws k).length := by rw [fiL_len]; omega
      rw [e, nthR_last, fiL_len]

theorem specSpread_ok {H : Heap} {a b c : AV} {xs ws : List Int} (ha : Ints H a xs) (hb : Ints H b ws) (hc : Ints H c (blL xs ws)) (hL : Loads xs ws) :
    ACalls Try.prog fn_spec_spreadOut [a, b, c] H fun r H' => Own H H' r 2 xs.length (frs (fiL xs ws xs.length)) ∧ Le H H' := by
  have hl := hL.2.2.1
  have hn := hL.2.2.2.2
  have hbl := hL.bl_len
  have hBk := hL.blk.1
  have hsl : (blL xs ws).length = (poS (rS xs ws) (rW ws) xs.length).length := stI_len _
  refine code_spec_spreadOut.go [.roI a xs.length xs, .roI b ws.length ws, .roI c (blL xs ws).length (blL xs ws)] ⟨⟨rfl, ha⟩, ⟨rfl, hb⟩, ⟨rfl, hc⟩, trivial⟩ (by simp) ?_
  unfold mc_spec_spreadOut
  (repeat (first | refine gst (hk := ?_) | (show GO _ _ _ _ _ (⟨some _, none, _⟩ :: _) _; first | refine go_op (hk := ?_) | (refine go_nw (hk := ?_); intro u; try simp only [llc, lln, lna, lza]) | (refine go_np (hk := ?_); intro id)) | (show GO _ _ _ _ _ (⟨none, none, _⟩ :: _) _; refine go_st (hk := ?_)) | (show GO _ _ _ _ _ (⟨_, some _, _⟩ :: _) _; first | refine go_in (hk := ?_) | refine go_out (hk := ?_) | refine go_void (hk := ?_)) | (show GK _ _ _ _ (blockK _ _ _); refine gk_past rfl ?_) | (show GC _ _ _ _ _ (.cond _ _ _) _; first | refine gc_yes (h1 := ?_) | refine gc_no (h1 := ?_))))
  refine go_new rfl stp_bsl0 ?_
  intro u
  (repeat (first | refine gst (hk := ?_) | (show GO _ _ _ _ _ (⟨some _, none, _⟩ :: _) _; first | refine go_op (hk := ?_) | (refine go_nw (hk := ?_); intro u; try simp only [llc, lln, lna, lza]) | (refine go_np (hk := ?_); intro id)) | (show GO _ _ _ _ _ (⟨none, none, _⟩ :: _) _; refine go_st (hk := ?_)) | (show GO _ _ _ _ _ (⟨_, some _, _⟩ :: _) _; first | refine go_in (hk := ?_) | refine go_out (hk := ?_) | refine go_void (hk := ?_)) | (show GK _ _ _ _ (blockK _ _ _); refine gk_past rfl ?_) | (show GC _ _ _ _ _ (.cond _ _ _) _; first | refine gc_yes (h1 := ?_) | refine gc_no (h1 := ?_))))
  refine gc_loop (γ := Nat × AV × Nat) (fun g => [(0, a), (1, b), (2, c), (7, g.2.1), (8, .int .i64 (g.1 : Int))]) (fun g => [rwF g.2.1 g.2.2 (fiL xs ws g.2.2), .roI a xs.length xs, .roI b ws.length ws, .roI c (blL xs ws).length (blL xs ws)]) (fun g => g.1 ≤ (blL xs ws).length ∧ (g.1 < (blL xs ws).length → nth (blL xs ws) g.1 = (g.2.2 : Int)) ∧ (g.1 = (blL xs ws).length → g.2.2 = xs.length)) (fun g => (blL xs ws).length - g.1) (0, u, 0) ⟨Nat.zero_le _, fun h => ?_, fun h => by dsimp only at h; omega⟩ (hb := ?_)
  · obtain ⟨s, w, g1, g2, g3, g4, g5, g6, g7, g8⟩ := blk_at hBk 0 (by dsimp only at h; omega)
    rw [show blL xs ws = stI (poS (rS xs ws) (rW ws) xs.length) from rfl, g1, g6 rfl]
  rintro ⟨i, u1, s⟩ ⟨hi, h1, h2⟩ I ν m hk
  simp only at hi h1 h2 hk ⊢
  (repeat (first | refine gst (hk := ?_) | (show GO _ _ _ _ _ (⟨some _, none, _⟩ :: _) _; first | refine go_op (hk := ?_) | (refine go_nw (hk := ?_); intro u; try simp only [llc, lln, lna, lza]) | (refine go_np (hk := ?_); intro id)) | (show GO _ _ _ _ _ (⟨none, none, _⟩ :: _) _; refine go_st (hk := ?_)) | (show GO _ _ _ _ _ (⟨_, some _, _⟩ :: _) _; first | refine go_in (hk := ?_) | refine go_out (hk := ?_) | refine go_void (hk := ?_)) | (show GK _ _ _ _ (blockK _ _ _); refine gk_past rfl ?_) | (show GC _ _ _ _ _ (.cond _ _ _) _; first | refine gc_yes (h1 := ?_) | refine gc_no (h1 := ?_))))
  refine gc_cond rfl (fun h => ?_) (fun h => ?_)
  · obtain ⟨s', w, g1, g2, g3, g4, g5, g6, g7, g8⟩ := blk_at hBk i (by omega)
    have hss : s' = s := by
      have := h1 (by omega)
      rw [show blL xs ws = stI (poS (rS xs ws) (rW ws) xs.length) from rfl, g1] at this; omega
    subst hss
    have hnx : (if i + 1 < (blL xs ws).length then nth (blL xs ws) (i + 1) else (xs.length : Int)) = (w : Int) := by rw [hsl]; exact g2
    have hns : nth (blL xs ws) i = (s' : Int) := g1
    have inner : ∀ u2, GK H [] [(0, a), (1, b), (2, c), (7, u2), (8, .int .i64 ((i + 1 : Nat) : Int))] [rwF u2 w (fiL xs ws w), .roI a xs.length xs, .roI b ws.length ws, .roI c (blL xs ws).length (blL xs ws)] _ := fun u2 => hk (i + 1, u2, w) ⟨by dsimp only; omega, fun h3 => by dsimp only at h3 ⊢; rw [if_pos h3] at hnx; exact hnx, fun h3 => by dsimp only at h3 ⊢; exact g7 (by omega)⟩ (by dsimp only; omega)
    (repeat (first | refine gst (hk := ?_) | (show GO _ _ _ _ _ (⟨some _, none, _⟩ :: _) _; first | refine go_op (hk := ?_) | (refine go_nw (hk := ?_); intro u; try simp only [llc, lln, lna, lza]) | (refine go_np (hk := ?_); intro id)) | (show GO _ _ _ _ _ (⟨none, none, _⟩ :: _) _; refine go_st (hk := ?_)) | (show GO _ _ _ _ _ (⟨_, some _, _⟩ :: _) _; first | refine go_in (hk := ?_) | refine go_out (hk := ?_) | refine go_void (hk := ?_)) | (show GK _ _ _ _ (blockK _ _ _); refine gk_past rfl ?_) | (show GC _ _ _ _ _ (.cond _ _ _) _; first | refine gc_yes (h1 := ?_) | refine gc_no (h1 := ?_))))
    refine gc_cond rfl (fun h3 => ?_) (fun h3 => ?_)
    all_goals
      have h3' := h3
      first
        | (rw [if_pos (by omega)] at hnx)
        | (rw [if_neg (by omega)] at hnx)
      (repeat (first | refine gst (hk := ?_) | (show GO _ _ _ _ _ (⟨some _, none, _⟩ :: _) _; first | refine go_op (hk := ?_) | (refine go_nw (hk := ?_); intro u; try simp only [llc, lln, lna, lza]) | (refine go_np (hk := ?_); intro id)) | (show GO _ _ _ _ _ (⟨none, none, _⟩ :: _) _; refine go_st (hk := ?_)) | (show GO _ _ _ _ _ (⟨_, some _, _⟩ :: _) _; first | refine go_in (hk := ?_) | refine go_out (hk := ?_) | refine go_void (hk := ?_)) | (show GK _ _ _ _ (blockK _ _ _); refine gk_past rfl ?_) | (show GC _ _ _ _ _ (.cond _ _ _) _; first | refine gc_yes (h1 := ?_) | refine gc_no (h1 := ?_))))
      try rw [show (((i : Int) + 1).toNat) = i + 1 by omega]
      try rw [hnx]
      (repeat (first | refine gst (hk := ?_) | (show GO _ _ _ _ _ (⟨some _, none, _⟩ :: _) _; first | refine go_op (hk := ?_) | (refine go_nw (hk := ?_); intro u; try simp only [llc, lln, lna, lza]) | (refine go_np (hk := ?_); intro id)) | (show GO _ _ _ _ _ (⟨none, none, _⟩ :: _) _; refine go_st (hk := ?_)) | (show GO _ _ _ _ _ (⟨_, some _, _⟩ :: _) _; first | refine go_in (hk := ?_) | refine go_out (hk := ?_) | refine go_void (hk := ?_)) | (show GK _ _ _ _ (blockK _ _ _); refine gk_past rfl ?_) | (show GC _ _ _ _ _ (.cond _ _ _) _; first | refine gc_yes (h1 := ?_) | refine gc_no (h1 := ?_))))
      rw [hns]
      refine gc_loop (γ := Nat × AV) (fun g => [(0, a), (1, b), (2, c), (7, g.2), (8, .int .i64 (i : Int)), (9, .int .i64 (w : Int)), (10, .int .i64 (g.1 : Int))]) (fun g => [rwF g.2 g.1 (fiL xs ws g.1), .roI a xs.length xs, .roI b ws.length ws, .roI c (blL xs ws).length (blL xs ws)]) (fun g => s' ≤ g.1 ∧ g.1 ≤ w) (fun g => w - g.1) (s', u1) ⟨Nat.le_refl _, by dsimp only; omega⟩ (hb := ?_)
      rintro ⟨k, u2⟩ ⟨hk1, hk2⟩ I2 ν2 m2 hk3
      simp only at hk1 hk2 hk3 ⊢
      (repeat (first | refine gst (hk := ?_) | (show GO _ _ _ _ _ (⟨some _, none, _⟩ :: _) _; first | refine go_op (hk := ?_) | (refine go_nw (hk := ?_); intro u; try simp only [llc, lln, lna, lza]) | (refine go_np (hk := ?_); intro id)) | (show GO _ _ _ _ _ (⟨none, none, _⟩ :: _) _; refine go_st (hk := ?_)) | (show GO _ _ _ _ _ (⟨_, some _, _⟩ :: _) _; first | refine go_in (hk := ?_) | refine go_out (hk := ?_) | refine go_void (hk := ?_)) | (show GK _ _ _ _ (blockK _ _ _); refine gk_past rfl ?_) | (show GC _ _ _ _ _ (.cond _ _ _) _; first | refine gc_yes (h1 := ?_) | refine gc_no (h1 := ?_))))
      refine gc_cond rfl (fun h4 => ?_) (fun h4 => ?_)
      · have hval : mnR xs ws s' w = fiR xs ws k := by
          rw [← mnR_mnA]; exact (g5 k hk1 (by omega)).symm
        have hfl := fiL_len xs ws k
        (repeat (first | refine gst (hk := ?_) | (show GO _ _ _ _ _ (⟨some _, none, _⟩ :: _) _; first | refine go_op (hk := ?_) | (refine go_nw (hk := ?_); intro u; try simp only [llc, lln, lna, lza]) | (refine go_np (hk := ?_); intro id)) | (show GO _ _ _ _ _ (⟨none, none, _⟩ :: _) _; refine go_st (hk := ?_)) | (show GO _ _ _ _ _ (⟨_, some _, _⟩ :: _) _; first | refine go_in (hk := ?_) | refine go_out (hk := ?_) | refine go_void (hk := ?_)) | (show GK _ _ _ _ (blockK _ _ _); refine gk_past rfl ?_) | (show GC _ _ _ _ _ (.cond _ _ _) _; first | refine gc_yes (h1 := ?_) | refine gc_no (h1 := ?_))))
        rw [hns]
        refine go_callp rfl code_spec_mean.callable (fun H hH => specMean_ok (i := s') (e := w) (hH.ints (by exact Has.auto)) (hH.ints (by exact Has.auto)) hL (by omega) (by omega) (by omega)) ?_
        rw [hval]
        refine go_new rfl (stp_bslF rfl) ?_
        intro u3
        (repeat (first | refine gst (hk := ?_) | (show GO _ _ _ _ _ (⟨some _, none, _⟩ :: _) _; first | refine go_op (hk := ?_) | (refine go_nw (hk := ?_); intro u; try simp only [llc, lln, lna, lza]) | (refine go_np (hk := ?_); intro id)) | (show GO _ _ _ _ _ (⟨none, none, _⟩ :: _) _; refine go_st (hk := ?_)) | (show GO _ _ _ _ _ (⟨_, some _, _⟩ :: _) _; first | refine go_in (hk := ?_) | refine go_out (hk := ?_) | refine go_void (hk := ?_)) | (show GK _ _ _ _ (blockK _ _ _); refine gk_past rfl ?_) | (show GC _ _ _ _ _ (.cond _ _ _) _; first | refine gc_yes (h1 := ?_) | refine gc_no (h1 := ?_))))
        refine go_new rfl (stp_appF rfl rfl (by exact Sel.auto) (by exact Has.auto) (by omega)) ?_
        intro u4
        (repeat (first | refine gst (hk := ?_) | (show GO _ _ _ _ _ (⟨some _, none, _⟩ :: _) _; first | refine go_op (hk := ?_) | (refine go_nw (hk := ?_); intro u; try simp only [llc, lln, lna, lza]) | (refine go_np (hk := ?_); intro id)) | (show GO _ _ _ _ _ (⟨none, none, _⟩ :: _) _; refine go_st (hk := ?_)) | (show GO _ _ _ _ _ (⟨_, some _, _⟩ :: _) _; first | refine go_in (hk := ?_) | refine go_out (hk := ?_) | refine go_void (hk := ?_)) | (show GK _ _ _ _ (blockK _ _ _); refine gk_past rfl ?_) | (show GC _ _ _ _ _ (.cond _ _ _) _; first | refine gc_yes (h1 := ?_) | refine gc_no (h1 := ?_))))
        exact gk_next (hk3 (k + 1, u4) ⟨by dsimp only; omega, by dsimp only; omega⟩ (by dsimp only; omega))
      · obtain rfl : k = w := by omega
        (repeat (first | refine gst (hk := ?_) | (show GO _ _ _ _ _ (⟨some _, none, _⟩ :: _) _; first | refine go_op (hk := ?_) | (refine go_nw (hk := ?_); intro u; try simp only [llc, lln, lna, lza]) | (refine go_np (hk := ?_); intro id)) | (show GO _ _ _ _ _ (⟨none, none, _⟩ :: _) _; refine go_st (hk := ?_)) | (show GO _ _ _ _ _ (⟨_, some _, _⟩ :: _) _; first | refine go_in (hk := ?_) | refine go_out (hk := ?_) | refine go_void (hk := ?_)) | (show GK _ _ _ _ (blockK _ _ _); refine gk_past rfl ?_) | (show GC _ _ _ _ _ (.cond _ _ _) _; first | refine gc_yes (h1 := ?_) | refine gc_no (h1 := ?_))))
        exact gk_next (inner u2)
  · obtain rfl : i = (blL xs ws).length := by omega
    obtain rfl := h2 rfl
    (repeat (first | refine gst (hk := ?_) | (show GO _ _ _ _ _ (⟨some _, none, _⟩ :: _) _; first | refine go_op (hk := ?_) | (refine go_nw (hk := ?_); intro u; try simp only [llc, lln, lna, lza]) | (refine go_np (hk := ?_); intro id)) | (show GO _ _ _ _ _ (⟨none, none, _⟩ :: _) _; refine go_st (hk := ?_)) | (show GO _ _ _ _ _ (⟨_, some _, _⟩ :: _) _; first | refine go_in (hk := ?_) | refine go_out (hk := ?_) | refine go_void (hk := ?_)) | (show GK _ _ _ _ (blockK _ _ _); refine gk_past rfl ?_) | (show GC _ _ _ _ _ (.cond _ _ _) _; first | refine gc_yes (h1 := ?_) | refine gc_no (h1 := ?_))))
    exact gk_ret rfl fun H' hH => hH.give (by exact Sel.auto)

theorem Loads.d_fd {xs ws : List Int} (h : Loads xs ws) {j : Nat} (hj : j < xs.length) : ∃ V : Int, (1 ≤ V ∧ V ≤ 40) ∧ FD (fiR xs ws j) V (30 * V) ∧ FD (((nth xs j : Int) : Rat) - fiR xs ws j) V (60 * V) := by
  obtain ⟨i, u, h1, h2, h3, h4⟩ := h.fit_is hj
  have hp := h.pos (i := i) (e := u) (by omega) h3
  have hf := h.fd (i := i) (e := u) (by omega) h3
  rw [← h4] at hf
  generalize sumI ws u - sumI ws i = V at *
  refine ⟨V, hp, hf, ?_⟩
  have hx := (FD.int (h.x j)).lift (m := V) (by omega)
  have := (hx.to (D' := V) (by omega)).sub hf
  exact this.mono (by omega)

structure MiFit (xs ws : List Int) (i : Nat) : Prop where
  a : FitA ((nth xs i : Int) : Rat) (fiR xs ws i)
  m : FitM (((nth xs i : Int) : Rat) - fiR xs ws i) (((nth xs i : Int) : Rat) - fiR xs ws i)
  w : FitM ((nth ws i : Int) : Rat) ((((nth xs i : Int) : Rat) - fiR xs ws i) * (((nth xs i : Int) : Rat) - fiR xs ws i))
  p : FitA (miR xs ws i) (sqM xs ws (fiR xs ws) i)

theorem Loads.mi_fit {xs ws : List Int} (h : Loads xs ws) {i : Nat} (hi : i < xs.length) : MiFit xs ws i := by
  obtain ⟨V, hV, f1, f2⟩ := h.d_fd hi
  have hx := h.x i
  have hw := h.w hi
  obtain ⟨Q, f3, hQ⟩ := h.mi_fd (t := i) (by omega)
  have fx := FD.int hx
  have fw : FD ((nth ws i : Int) : Rat) 1 5 := FD.int (by omega)
  have fdd := f2.mul f2
  have fq := fw.mul fdd
  have b1 : V * V ≤ 40 * 40 := Int.mul_le_mul hV.2 hV.2 (by omega) (by omega)
  have b2 : 60 * V * (60 * V) = 3600 * (V * V) := by grind
  have b0 : 0 ≤ V * V := Int.mul_nonneg (by omega) (by omega)
  rw [b2] at fdd fq
  generalize hVV : V * V = W at *
  have hQ1 := f3.1
  have b3 : Q * W ≤ 92000000 * 1600 := Int.mul_le_mul hQ (by omega) (by omega) (by omega)
  have b5 : 0 ≤ Q * W := Int.mul_nonneg (by omega) (by omega)
  refine ⟨fitA_of fx f1 (by omega) (by omega) (by omega), fitM_of f2 f2 (by omega) (by omega), fitM_of fw fdd (by omega) (by omega), fitA_of f3 fq ?_ ?_ ?_⟩
  · rw [show 144000 * Q * (1 * W) = 144000 * (Q * W) by grind]; omega
  · rw [show 5 * (3600 * W) * Q = 18000 * (Q * W) by grind]; omega
  · rw [show Q * (1 * W) = Q * W by grind]; omega

theorem miR_zero (xs ws : List Int) : miR xs ws 0 = ((0 : Int) : Rat) / ((1 : Int) : Rat) := by
  rw [rat_one]; rfl

theorem specMissOf_ok {H : Heap} {a b c : AV} {xs ws : List Int} (ha : Ints H a xs) (hb : Ints H b ws) (hc : Vals H c 2 xs.length (frs (fiL xs ws xs.length))) (hL : Loads xs ws) :
    ACalls Try.prog fn_spec_missOf [a, b, c] H fun r H' => r = frV (miR xs ws xs.length) ∧ H' = H := by
  refine ACalls.val ?_ rfl
  have hl := hL.2.2.1
  have hn := hL.2.2.2.2
  have hfl := fiL_len xs ws xs.length
  refine code_spec_missOf.go [.roI a xs.length xs, .roI b ws.length ws, roF c xs.length (fiL xs ws xs.length)] ⟨⟨rfl, ha⟩, ⟨rfl, hb⟩, ⟨rfl, hc⟩, trivial⟩ (by simp) ?_
  unfold mc_spec_missOf
  (repeat (first | refine gst (hk := ?_) | (with_reducible first | (refine gc_drw (h := ?_); intro _) | (refine gc_drw2 (h := ?_); intro _)) | (show GO _ _ _ _ _ (⟨some _, none, _⟩ :: _) _; first | refine go_op (hk := ?_) | (refine go_nw (hk := ?_); intro u; try simp only [llc, lln, lna, lza]) | (refine go_np (hk := ?_); intro id)) | (show GD _ _ _ _ _ _ _ (⟨some _, none, _⟩ :: _) _; first | refine gd_op (hk := ?_) | (refine gd_nw (hk := ?_); intro u; try simp only [llc, lln, lna, lza])) | (show GR _ _ _ _ _ _ (⟨some _, none, _⟩ :: _) _; refine gr_op (hk := ?_)) | (show GD2 _ _ _ _ _ _ _ _ _ _ _ _ _ _; first | refine gd2_nil rfl ?_ | refine gd2_op (hk := ?_) | (refine gd2_nw (hk := ?_); intro u; try simp only [llc, lln, lna, lza]) | refine gd2_l (hk := ?_) | refine gd2_lp (hk := ?_) | (refine gd2_newp (hk := ?_); intro id) | refine gd2_st (hk := ?_) | (refine gd2_bsl rfl rfl ?_; intro u; try simp only [llc, lln, lna, lza]) | (refine gd2_a (hk := ?_); intro u; try simp only [llc, lln, lna, lza])) | (show GO _ _ _ _ _ (⟨none, none, _⟩ :: _) _; refine go_st (hk := ?_)) | (show GD _ _ _ _ _ _ _ (⟨none, none, _⟩ :: _) _; refine gd_st (hk := ?_)) | (show GR _ _ _ _ _ _ (⟨none, none, _⟩ :: _) _; refine gr_st (hk := ?_)) | (show GO _ _ _ _ _ (⟨_, some _, _⟩ :: _) _; first | refine go_in (hk := ?_) | refine go_out (hk := ?_) | refine go_void (hk := ?_)) | (show GK _ _ _ _ (blockK _ _ _); refine gk_past rfl ?_) | (show GC _ _ _ _ _ (.cond _ _ _) _; first | refine gc_yes (h1 := ?_) | refine gc_no (h1 := ?_))))
  refine go_callp rfl code_spec_frac.callable (fun H hH => frac_ok (a := 0) (b := 1) (by omega) (by omega) (by omega)) ?_
  rw [← miR_zero xs ws]
  (repeat (first | refine gst (hk := ?_) | (with_reducible first | (refine gc_drw (h := ?_); intro _) | (refine gc_drw2 (h := ?_); intro _)) | (show GO _ _ _ _ _ (⟨some _, none, _⟩ :: _) _; first | refine go_op (hk := ?_) | (refine go_nw (hk := ?_); intro u; try simp only [llc, lln, lna, lza]) | (refine go_np (hk := ?_); intro id)) | (show GD _ _ _ _ _ _ _ (⟨some _, none, _⟩ :: _) _; first | refine gd_op (hk := ?_) | (refine gd_nw (hk := ?_); intro u; try simp only [llc, lln, lna, lza])) | (show GR _ _ _ _ _ _ (⟨some _, none, _⟩ :: _) _; refine gr_op (hk := ?_)) | (show GD2 _ _ _ _ _ _ _ _ _ _ _ _ _ _; first | refine gd2_nil rfl ?_ | refine gd2_op (hk := ?_) | (refine gd2_nw (hk := ?_); intro u; try simp only [llc, lln, lna, lza]) | refine gd2_l (hk := ?_) | refine gd2_lp (hk := ?_) | (refine gd2_newp (hk := ?_); intro id) | refine gd2_st (hk := ?_) | (refine gd2_bsl rfl rfl ?_; intro u; try simp only [llc, lln, lna, lza]) | (refine gd2_a (hk := ?_); intro u; try simp only [llc, lln, lna, lza])) | (show GO _ _ _ _ _ (⟨none, none, _⟩ :: _) _; refine go_st (hk := ?_)) | (show GD _ _ _ _ _ _ _ (⟨none, none, _⟩ :: _) _; refine gd_st (hk := ?_)) | (show GR _ _ _ _ _ _ (⟨none, none, _⟩ :: _) _; refine gr_st (hk := ?_)) | (show GO _ _ _ _ _ (⟨_, some _, _⟩ :: _) _; first | refine go_in (hk := ?_) | refine go_out (hk := ?_) | refine go_void (hk := ?_)) | (show GK _ _ _ _ (blockK _ _ _); refine gk_past rfl ?_) | (show GC _ _ _ _ _ (.cond _ _ _) _; first | refine gc_yes (h1 := ?_) | refine gc_no (h1 := ?_))))
  revert id; intro i7
  revert id; intro i6
  refine gc_up xs.length (fun i => [(0, a), (1, b), (2, c), (6, .ptr i6 0), (7, .ptr i7 0), (8, .int .i64 (i : Int))]) (fun i => [celF i7 (miR xs ws i), cel0 i6, .roI a xs.length xs, .roI b ws.length ws, roF c xs.length (fiL xs ws xs.length)]) (hb := ?_)
  intro i hi I ν m hk
  (repeat (first | refine gst (hk := ?_) | (with_reducible first | (refine gc_drw (h := ?_); intro _) | (refine gc_drw2 (h := ?_); intro _)) | (show GO _ _ _ _ _ (⟨some _, none, _⟩ :: _) _; first | refine go_op (hk := ?_) | (refine go_nw (hk := ?_); intro u; try simp only [llc, lln, lna, lza]) | (refine go_np (hk := ?_); intro id)) | (show GD _ _ _ _ _ _ _ (⟨some _, none, _⟩ :: _) _; first | refine gd_op (hk := ?_) | (refine gd_nw (hk := ?_); intro u; try simp only [llc, lln, lna, lza])) | (show GR _ _ _ _ _ _ (⟨some _, none, _⟩ :: _) _; refine gr_op (hk := ?_)) | (show GD2 _ _ _ _ _ _ _ _ _ _ _ _ _ _; first | refine gd2_nil rfl ?_ | refine gd2_op (hk := ?_) | (refine gd2_nw (hk := ?_); intro u; try simp only [llc, lln, lna, lza]) | refine gd2_l (hk := ?_) | refine gd2_lp (hk := ?_) | (refine gd2_newp (hk := ?_); intro id) | refine gd2_st (hk := ?_) | (refine gd2_bsl rfl rfl ?_; intro u; try simp only [llc, lln, lna, lza]) | (refine gd2_a (hk := ?_); intro u; try simp only [llc, lln, lna, lza])) | (show GO _ _ _ _ _ (⟨none, none, _⟩ :: _) _; refine go_st (hk := ?_)) | (show GD _ _ _ _ _ _ _ (⟨none, none, _⟩ :: _) _; refine gd_st (hk := ?_)) | (show GR _ _ _ _ _ _ (⟨none, none, _⟩ :: _) _; refine gr_st (hk := ?_)) | (show GO _ _ _ _ _ (⟨_, some _, _⟩ :: _) _; first | refine go_in (hk := ?_) | refine go_out (hk := ?_) | refine go_void (hk := ?_)) | (show GK _ _ _ _ (blockK _ _ _); refine gk_past rfl ?_) | (show GC _ _ _ _ _ (.cond _ _ _) _; first | refine gc_yes (h1 := ?_) | refine gc_no (h1 := ?_))))
  refine gc_cond rfl (fun h => ?_) (fun h => ?_)
  · obtain ⟨m1, m2, m3, m4⟩ := hL.mi_fit (i := i) (by omega)
    have hx := hL.x i
    have hw := hL.w (i := i) (by omega)
    have hk1 := hk (by omega)
    (repeat (first | refine gst (hk := ?_) | (with_reducible first | (refine gc_drw (h := ?_); intro _) | (refine gc_drw2 (h := ?_); intro _)) | (show GO _ _ _ _ _ (⟨some _, none, _⟩ :: _) _; first | refine go_op (hk := ?_) | (refine go_nw (hk := ?_); intro u; try simp only [llc, lln, lna, lza]) | (refine go_np (hk := ?_); intro id)) | (show GD _ _ _ _ _ _ _ (⟨some _, none, _⟩ :: _) _; first | refine gd_op (hk := ?_) | (refine gd_nw (hk := ?_); intro u; try simp only [llc, lln, lna, lza])) | (show GR _ _ _ _ _ _ (⟨some _, none, _⟩ :: _) _; refine gr_op (hk := ?_)) | (show GD2 _ _ _ _ _ _ _ _ _ _ _ _ _ _; first | refine gd2_nil rfl ?_ | refine gd2_op (hk := ?_) | (refine gd2_nw (hk := ?_); intro u; try simp only [llc, lln, lna, lza]) | refine gd2_l (hk := ?_) | refine gd2_lp (hk := ?_) | (refine gd2_newp (hk := ?_); intro id) | refine gd2_st (hk := ?_) | (refine gd2_bsl rfl rfl ?_; intro u; try simp only [llc, lln, lna, lza]) | (refine gd2_a (hk := ?_); intro u; try simp only [llc, lln, lna, lza])) | (show GO _ _ _ _ _ (⟨none, none, _⟩ :: _) _; refine go_st (hk := ?_)) | (show GD _ _ _ _ _ _ _ (⟨none, none, _⟩ :: _) _; refine gd_st (hk := ?_)) | (show GR _ _ _ _ _ _ (⟨none, none, _⟩ :: _) _; refine gr_st (hk := ?_)) | (show GO _ _ _ _ _ (⟨_, some _, _⟩ :: _) _; first | refine go_in (hk := ?_) | refine go_out (hk := ?_) | refine go_void (hk := ?_)) | (show GK _ _ _ _ (blockK _ _ _); refine gk_past rfl ?_) | (show GC _ _ _ _ _ (.cond _ _ _) _; first | refine gc_yes (h1 := ?_) | refine gc_no (h1 := ?_))))
    refine gc_drw4n (qtTab [(fn_spec_frac, dFrac), (fn_spec_minus, dMinus)]) (fun H0 H hH0 hg => qtTab_cons (dFrac_ok H) (qtTab_cons (dMinus_ok H) qtTab_nil)) (fun H0 hH0 => ?_)
    repeat (refine gd4_op (hk := ?_))
    refine gd4_ld (u := a.elem i) rfl (stp_ld (i := i)) ?_
    refine gd4_call rfl (dFrac_is (a := nth xs i) (b := 1) (by omega) (by omega) (by omega)) ?_
    rw [rat_one]
    repeat (refine gd4_op (hk := ?_))
    refine gd4_ld (u := c.elem i) rfl (stp_ldF (i := i) rfl (by exact Has.auto) (by omega) (by omega)) ?_
    rw [nth_fiL (by omega)]
    refine gd4_call rfl (fam2_is (F := FitA) m1) ?_
    refine gd4_new ?_
    refine gd4_st rfl stp_stag ?_
    have b1 := vid_old (v := a) (es := 1) (n := xs.length) (cs := ints xs) (i := i) hH0 (by exact Has.auto)
    have b2 := vid_old (v := c) (es := 2) (n := xs.length) (cs := frs (fiL xs ws xs.length)) (i := i) hH0 (by exact Has.auto)
    refine gd4_nil (pairs_on rfl rfl b1 (pairs_on rfl rfl b2 trivial)) (by simp [vid]) ?_
    (repeat (first | refine gst (hk := ?_) | (with_reducible first | (refine gc_drw (h := ?_); intro _) | (refine gc_drw2 (h := ?_); intro _)) | (show GO _ _ _ _ _ (⟨some _, none, _⟩ :: _) _; first | refine go_op (hk := ?_) | (refine go_nw (hk := ?_); intro u; try simp only [llc, lln, lna, lza]) | (refine go_np (hk := ?_); intro id)) | (show GD _ _ _ _ _ _ _ (⟨some _, none, _⟩ :: _) _; first | refine gd_op (hk := ?_) | (refine gd_nw (hk := ?_); intro u; try simp only [llc, lln, lna, lza])) | (show GR _ _ _ _ _ _ (⟨some _, none, _⟩ :: _) _; refine gr_op (hk := ?_)) | (show GD2 _ _ _ _ _ _ _ _ _ _ _ _ _ _; first | refine gd2_nil rfl ?_ | refine gd2_op (hk := ?_) | (refine gd2_nw (hk := ?_); intro u; try simp only [llc, lln, lna, lza]) | refine gd2_l (hk := ?_) | refine gd2_lp (hk := ?_) | (refine gd2_newp (hk := ?_); intro id) | refine gd2_st (hk := ?_) | (refine gd2_bsl rfl rfl ?_; intro u; try simp only [llc, lln, lna, lza]) | (refine gd2_a (hk := ?_); intro u; try simp only [llc, lln, lna, lza])) | (show GO _ _ _ _ _ (⟨none, none, _⟩ :: _) _; refine go_st (hk := ?_)) | (show GD _ _ _ _ _ _ _ (⟨none, none, _⟩ :: _) _; refine gd_st (hk := ?_)) | (show GR _ _ _ _ _ _ (⟨none, none, _⟩ :: _) _; refine gr_st (hk := ?_)) | (show GO _ _ _ _ _ (⟨_, some _, _⟩ :: _) _; first | refine go_in (hk := ?_) | refine go_out (hk := ?_) | refine go_void (hk := ?_)) | (show GK _ _ _ _ (blockK _ _ _); refine gk_past rfl ?_) | (show GC _ _ _ _ _ (.cond _ _ _) _; first | refine gc_yes (h1 := ?_) | refine gc_no (h1 := ?_))))
    refine gc_drc (fun _ => qtTab [(fn_spec_frac, dFrac), (fn_spec_times, dTimes), (fn_spec_plus, dPlus)]) (fun H _ => qtTab_cons (dFrac_ok H) (qtTab_cons (dTimes_ok H) (qtTab_cons (dPlus_ok H) qtTab_nil))) (fun H1 => ?_)
    (repeat (first | refine gst (hk := ?_) | (with_reducible first | (refine gc_drw (h := ?_); intro _) | (refine gc_drw2 (h := ?_); intro _)) | (show GO _ _ _ _ _ (⟨some _, none, _⟩ :: _) _; first | refine go_op (hk := ?_) | (refine go_nw (hk := ?_); intro u; try simp only [llc, lln, lna, lza]) | (refine go_np (hk := ?_); intro id)) | (show GD _ _ _ _ _ _ _ (⟨some _, none, _⟩ :: _) _; first | refine gd_op (hk := ?_) | (refine gd_nw (hk := ?_); intro u; try simp only [llc, lln, lna, lza])) | (show GR _ _ _ _ _ _ (⟨some _, none, _⟩ :: _) _; refine gr_op (hk := ?_)) | (show GD2 _ _ _ _ _ _ _ _ _ _ _ _ _ _; first | refine gd2_nil rfl ?_ | refine gd2_op (hk := ?_) | (refine gd2_nw (hk := ?_); intro u; try simp only [llc, lln, lna, lza]) | refine gd2_l (hk := ?_) | refine gd2_lp (hk := ?_) | (refine gd2_newp (hk := ?_); intro id) | refine gd2_st (hk := ?_) | (refine gd2_bsl rfl rfl ?_; intro u; try simp only [llc, lln, lna, lza]) | (refine gd2_a (hk := ?_); intro u; try simp only [llc, lln, lna, lza])) | (show GO _ _ _ _ _ (⟨none, none, _⟩ :: _) _; refine go_st (hk := ?_)) | (show GD _ _ _ _ _ _ _ (⟨none, none, _⟩ :: _) _; refine gd_st (hk := ?_)) | (show GR _ _ _ _ _ _ (⟨none, none, _⟩ :: _) _; refine gr_st (hk := ?_)) | (show GO _ _ _ _ _ (⟨_, some _, _⟩ :: _) _; first | refine go_in (hk := ?_) | refine go_out (hk := ?_) | refine go_void (hk := ?_)) | (show GK _ _ _ _ (blockK _ _ _); refine gk_past rfl ?_) | (show GC _ _ _ _ _ (.cond _ _ _) _; first | refine gc_yes (h1 := ?_) | refine gc_no (h1 := ?_))))
    refine gr_call rfl (dFrac_is (a := nth ws i) (b := 1) (by omega) (by omega) (by omega)) ?_
    rw [rat_one]
    (repeat (first | refine gst (hk := ?_) | (with_reducible first | (refine gc_drw (h := ?_); intro _) | (refine gc_drw2 (h := ?_); intro _)) | (show GO _ _ _ _ _ (⟨some _, none, _⟩ :: _) _; first | refine go_op (hk := ?_) | (refine go_nw (hk := ?_); intro u; try simp only [llc, lln, lna, lza]) | (refine go_np (hk := ?_); intro id)) | (show GD _ _ _ _ _ _ _ (⟨some _, none, _⟩ :: _) _; first | refine gd_op (hk := ?_) | (refine gd_nw (hk := ?_); intro u; try simp only [llc, lln, lna, lza])) | (show GR _ _ _ _ _ _ (⟨some _, none, _⟩ :: _) _; refine gr_op (hk := ?_)) | (show GD2 _ _ _ _ _ _ _ _ _ _ _ _ _ _; first | refine gd2_nil rfl ?_ | refine gd2_op (hk := ?_) | (refine gd2_nw (hk := ?_); intro u; try simp only [llc, lln, lna, lza]) | refine gd2_l (hk := ?_) | refine gd2_lp (hk := ?_) | (refine gd2_newp (hk := ?_); intro id) | refine gd2_st (hk := ?_) | (refine gd2_bsl rfl rfl ?_; intro u; try simp only [llc, lln, lna, lza]) | (refine gd2_a (hk := ?_); intro u; try simp only [llc, lln, lna, lza])) | (show GO _ _ _ _ _ (⟨none, none, _⟩ :: _) _; refine go_st (hk := ?_)) | (show GD _ _ _ _ _ _ _ (⟨none, none, _⟩ :: _) _; refine gd_st (hk := ?_)) | (show GR _ _ _ _ _ _ (⟨none, none, _⟩ :: _) _; refine gr_st (hk := ?_)) | (show GO _ _ _ _ _ (⟨_, some _, _⟩ :: _) _; first | refine go_in (hk := ?_) | refine go_out (hk := ?_) | refine go_void (hk := ?_)) | (show GK _ _ _ _ (blockK _ _ _); refine gk_past rfl ?_) | (show GC _ _ _ _ _ (.cond _ _ _) _; first | refine gc_yes (h1 := ?_) | refine gc_no (h1 := ?_))))
    refine gr_call rfl (fam2_is (F := FitM) m2) ?_
    refine gr_call rfl (fam2_is (F := FitM) m3) ?_
    refine gr_call rfl (fam2_is (F := FitA) m4) ?_
    rw [show miR xs ws i + ((nth ws i : Int) : Rat) * ((((nth xs i : Int) : Rat) - fiR xs ws i) * (((nth xs i : Int) : Rat) - fiR xs ws i)) = miR xs ws (i + 1) from rfl]
    (repeat (first | refine gst (hk := ?_) | (with_reducible first | (refine gc_drw (h := ?_); intro _) | (refine gc_drw2 (h := ?_); intro _)) | (show GO _ _ _ _ _ (⟨some _, none, _⟩ :: _) _; first | refine go_op (hk := ?_) | (refine go_nw (hk := ?_); intro u; try simp only [llc, lln, lna, lza]) | (refine go_np (hk := ?_); intro id)) | (show GD _ _ _ _ _ _ _ (⟨some _, none, _⟩ :: _) _; first | refine gd_op (hk := ?_) | (refine gd_nw (hk := ?_); intro u; try simp only [llc, lln, lna, lza])) | (show GR _ _ _ _ _ _ (⟨some _, none, _⟩ :: _) _; refine gr_op (hk := ?_)) | (show GD2 _ _ _ _ _ _ _ _ _ _ _ _ _ _; first | refine gd2_nil rfl ?_ | refine gd2_op (hk := ?_) | (refine gd2_nw (hk := ?_); intro u; try simp only [llc, lln, lna, lza]) | refine gd2_l (hk := ?_) | refine gd2_lp (hk := ?_) | (refine gd2_newp (hk := ?_); intro id) | refine gd2_st (hk := ?_) | (refine gd2_bsl rfl rfl ?_; intro u; try simp only [llc, lln, lna, lza]) | (refine gd2_a (hk := ?_); intro u; try simp only [llc, lln, lna, lza])) | (show GO _ _ _ _ _ (⟨none, none, _⟩ :: _) _; refine go_st (hk := ?_)) | (show GD _ _ _ _ _ _ _ (⟨none, none, _⟩ :: _) _; refine gd_st (hk := ?_)) | (show GR _ _ _ _ _ _ (⟨none, none, _⟩ :: _) _; refine gr_st (hk := ?_)) | (show GO _ _ _ _ _ (⟨_, some _, _⟩ :: _) _; first | refine go_in (hk := ?_) | refine go_out (hk := ?_) | refine go_void (hk := ?_)) | (show GK _ _ _ _ (blockK _ _ _); refine gk_past rfl ?_) | (show GC _ _ _ _ _ (.cond _ _ _) _; first | refine gc_yes (h1 := ?_) | refine gc_no (h1 := ?_))))
    exact gk_next hk1
  · obtain rfl : i = xs.length := by omega
    (repeat (first | refine gst (hk := ?_) | (with_reducible first | (refine gc_drw (h := ?_); intro _) | (refine gc_drw2 (h := ?_); intro _)) | (show GO _ _ _ _ _ (⟨some _, none, _⟩ :: _) _; first | refine go_op (hk := ?_) | (refine go_nw (hk := ?_); intro u; try simp only [llc, lln, lna, lza]) | (refine go_np (hk := ?_); intro id)) | (show GD _ _ _ _ _ _ _ (⟨some _, none, _⟩ :: _) _; first | refine gd_op (hk := ?_) | (refine gd_nw (hk := ?_); intro u; try simp only [llc, lln, lna, lza])) | (show GR _ _ _ _ _ _ (⟨some _, none, _⟩ :: _) _; refine gr_op (hk := ?_)) | (show GD2 _ _ _ _ _ _ _ _ _ _ _ _ _ _; first | refine gd2_nil rfl ?_ | refine gd2_op (hk := ?_) | (refine gd2_nw (hk := ?_); intro u; try simp only [llc, lln, lna, lza]) | refine gd2_l (hk := ?_) | refine gd2_lp (hk := ?_) | (refine gd2_newp (hk := ?_); intro id) | refine gd2_st (hk := ?_) | (refine gd2_bsl rfl rfl ?_; intro u; try simp only [llc, lln, lna, lza]) | (refine gd2_a (hk := ?_); intro u; try simp only [llc, lln, lna, lza])) | (show GO _ _ _ _ _ (⟨none, none, _⟩ :: _) _; refine go_st (hk := ?_)) | (show GD _ _ _ _ _ _ _ (⟨none, none, _⟩ :: _) _; refine gd_st (hk := ?_)) | (show GR _ _ _ _ _ _ (⟨none, none, _⟩ :: _) _; refine gr_st (hk := ?_)) | (show GO _ _ _ _ _ (⟨_, some _, _⟩ :: _) _; first | refine go_in (hk := ?_) | refine go_out (hk := ?_) | refine go_void (hk := ?_)) | (show GK _ _ _ _ (blockK _ _ _); refine gk_past rfl ?_) | (show GC _ _ _ _ _ (.cond _ _ _) _; first | refine gc_yes (h1 := ?_) | refine gc_no (h1 := ?_))))
    exact gk_rets (rvs_c rfl (by exact Sel.auto) rfl rfl rvs_nil) fun H' hH => ⟨rfl, hH.leE⟩

noncomputable def rmX (xs ws : List Int) : AV := if Loads xs ws then .tuple [frV (miR xs ws xs.length), .bool true] else .tuple [fr0, .bool false]

theorem specTurned_ok {H : Heap} {a : AV} {xs : List Int} (ha : Ints H a xs) (hl : xs.length ≤ 1000000) :
    ACalls Try.prog fn_spec_turned [a] H fun r H' => OwnI H H' r xs.reverse ∧ Le H H' := by
  refine code_spec_turned.go [.roI a xs.length xs] ⟨⟨rfl, ha⟩, trivial⟩ (by simp) ?_
  unfold mc_spec_turned
  (repeat (first | refine gst (hk := ?_) | (show GO _ _ _ _ _ (⟨some _, none, _⟩ :: _) _; first | refine go_op (hk := ?_) | (refine go_nw (hk := ?_); intro u; try simp only [llc, lln, lna, lza]) | (refine go_np (hk := ?_); intro id)) | (show GO _ _ _ _ _ (⟨none, none, _⟩ :: _) _; refine go_st (hk := ?_)) | (show GO _ _ _ _ _ (⟨_, some _, _⟩ :: _) _; first | refine go_in (hk := ?_) | refine go_out (hk := ?_) | refine go_void (hk := ?_)) | (show GK _ _ _ _ (blockK _ _ _); refine gk_past rfl ?_) | (show GC _ _ _ _ _ (.cond _ _ _) _; first | refine gc_yes (h1 := ?_) | refine gc_no (h1 := ?_))))
  refine gc_upv xs.length (fun i v => [(0, a), (3, v), (4, .int .i64 ((xs.length : Int) - 1 - i))]) (fun i v => [.rwI v i (xs.reverse.take i), .roI a xs.length xs]) u (hb := ?_)
  intro i v hi I ν m hn
  (repeat (first | refine gst (hk := ?_) | (show GO _ _ _ _ _ (⟨some _, none, _⟩ :: _) _; first | refine go_op (hk := ?_) | (refine go_nw (hk := ?_); intro u; try simp only [llc, lln, lna, lza]) | (refine go_np (hk := ?_); intro id)) | (show GO _ _ _ _ _ (⟨none, none, _⟩ :: _) _; refine go_st (hk := ?_)) | (show GO _ _ _ _ _ (⟨_, some _, _⟩ :: _) _; first | refine go_in (hk := ?_) | refine go_out (hk := ?_) | refine go_void (hk := ?_)) | (show GK _ _ _ _ (blockK _ _ _); refine gk_past rfl ?_) | (show GC _ _ _ _ _ (.cond _ _ _) _; first | refine gc_yes (h1 := ?_) | refine gc_no (h1 := ?_))))
  refine gc_cond rfl (fun h => ?_) (fun h => ?_)
  · have e : ((xs.length : Int) - 1 - i) = ((xs.length - 1 - i : Nat) : Int) := by omega
    rw [e]
    (repeat (first | refine gst (hk := ?_) | (show GO _ _ _ _ _ (⟨some _, none, _⟩ :: _) _; first | refine go_op (hk := ?_) | (refine go_nw (hk := ?_); intro u; try simp only [llc, lln, lna, lza]) | (refine go_np (hk := ?_); intro id)) | (show GO _ _ _ _ _ (⟨none, none, _⟩ :: _) _; refine go_st (hk := ?_)) | (show GO _ _ _ _ _ (⟨_, some _, _⟩ :: _) _; first | refine go_in (hk := ?_) | refine go_out (hk := ?_) | refine go_void (hk := ?_)) | (show GK _ _ _ _ (blockK _ _ _); refine gk_past rfl ?_) | (show GC _ _ _ _ _ (.cond _ _ _) _; first | refine gc_yes (h1 := ?_) | refine gc_no (h1 := ?_))))
    have e2 : xs.reverse.take (i + 1) = xs.reverse.take i ++ [nth xs (xs.length - 1 - i)] := by
      rw [take_snoc (by simp; omega)]
      congr 2
      rw [nth_of (by simp; omega), nth_of (by omega), List.getElem_reverse]
    have hk := hn (by omega) u
    rw [e2] at hk
    exact gk_next hk
  · (repeat (first | refine gst (hk := ?_) | (show GO _ _ _ _ _ (⟨some _, none, _⟩ :: _) _; first | refine go_op (hk := ?_) | (refine go_nw (hk := ?_); intro u; try simp only [llc, lln, lna, lza]) | (refine go_np (hk := ?_); intro id)) | (show GO _ _ _ _ _ (⟨none, none, _⟩ :: _) _; refine go_st (hk := ?_)) | (show GO _ _ _ _ _ (⟨_, some _, _⟩ :: _) _; first | refine go_in (hk := ?_) | refine go_out (hk := ?_) | refine go_void (hk := ?_)) | (show GK _ _ _ _ (blockK _ _ _); refine gk_past rfl ?_) | (show GC _ _ _ _ _ (.cond _ _ _) _; first | refine gc_yes (h1 := ?_) | refine gc_no (h1 := ?_))))
    have : i = xs.length := by omega
    subst this
    refine gk_ret rfl fun H' hH => ?_
    have e : xs.reverse.take xs.length = xs.reverse := List.take_of_length_le (by simp)
    rw [e] at hH
    have := hH.give .head
    unfold OwnI
    rw [List.length_reverse]
    exact this

theorem Loads.take {xs ws : List Int} (h : Loads xs ws) {k : Nat} (h1 : 1 ≤ k) (h2 : k ≤ xs.length) : Loads (xs.take k) (ws.take k) := by
  obtain ⟨g1, g2, g3, g4, g5⟩ := h
  exact ⟨fun w hw => g1 w (List.mem_of_mem_take hw), fun x hx => g2 x (List.mem_of_mem_take hx), by rw [List.length_take, List.length_take]; omega, by rw [List.length_take]; omega, by rw [List.length_take]; omega⟩

theorem Loads.rest {xs ws : List Int} (h : Loads xs ws) {k : Nat} (h2 : k < xs.length) : Loads (xs.drop k).reverse (ws.drop k).reverse := by
  obtain ⟨g1, g2, g3, g4, g5⟩ := h
  exact ⟨fun w hw => g1 w (List.mem_of_mem_drop (List.mem_reverse.1 hw)), fun x hx => g2 x (List.mem_of_mem_drop (List.mem_reverse.1 hx)), by simp only [List.length_reverse, List.length_drop]; omega, by simp only [List.length_reverse, List.length_drop]; omega, by simp only [List.length_reverse, List.length_drop]; omega⟩

noncomputable def miE (xs ws : List Int) : Rat := miR xs ws xs.length

theorem miE_nil (ws : List Int) : miE [] ws = ((0 : Int) : Rat) := rfl

noncomputable def ptR (xs ws : List Int) (k : Nat) : Rat := miE (xs.take k) (ws.take k) + miE (xs.drop k).reverse (ws.drop k).reverse

theorem sumL_app' : ∀ l m : List Int, sumL (l ++ m) = sumL l + sumL m
  | [], m => by simp [sumL]
  | x :: l, m => by rw [List.cons_append, sumL, sumL_app' l m, sumL]; omega

theorem sumL_rev' : ∀ l : List Int, sumL l.reverse = sumL l
  | [] => rfl
  | x :: l => by rw [List.reverse_cons, sumL_app', sumL_rev' l]; simp only [sumL]; omega

theorem cube_lim {P : Nat} (h : P ^ 3 ≤ 3 ^ 40) : P ≤ 2299999 := by
  rcases Nat.lt_or_ge P 2300000 with g | g
  · omega
  · exfalso
    have g1 := Nat.pow_le_pow_left g 3
    have g3 : (2300000 : Nat) ^ 3 > 3 ^ 40 := by decide
    omega

theorem sumW_pos {ws : List Int} (h : ∀ w ∈ ws, 1 ≤ w ∧ w ≤ 5) : 0 ≤ sumL ws ∧ sumL ws ≤ 5 * (ws.length : Int) := by
  induction ws with
  | nil => simp [sumL]
  | cons w l ih =>
    have h1 := h w (by simp)
    have h2 := ih fun x hx => h x (by simp [hx])
    simp only [sumL, List.length_cons]; omega

theorem Loads.miE_end {xs ws : List Int} (h : (xs = [] ∧ ws = []) ∨ Loads xs ws) : ∃ P : Nat, FD (miE xs ws) (P : Int) (144000 * (P : Int)) ∧ P ^ 3 ≤ 3 ^ (sumL ws).toNat := by
  rcases h with ⟨rfl, rfl⟩ | h
  · exact ⟨1, ⟨by omega, 0, by rw [miE_nil]; simp, by omega, by omega⟩, by simp [sumL]⟩
  · exact h.mi_end

theorem Loads.two {xs ws : List Int} (h : Loads xs ws) {k : Nat} (hk : k ≤ xs.length) : ((xs.take k = [] ∧ ws.take k = []) ∨ Loads (xs.take k) (ws.take k)) ∧ (((xs.drop k).reverse = [] ∧ (ws.drop k).reverse = []) ∨ Loads (xs.drop k).reverse (ws.drop k).reverse) := by
  constructor
  · rcases Nat.eq_zero_or_pos k with rfl | h0
    · exact .inl ⟨rfl, rfl⟩
    · exact .inr (h.take h0 hk)
  · rcases Nat.lt_or_ge k xs.length with h0 | h0
    · exact .inr (h.rest h0)
    · have := h.2.2.1
      exact .inl ⟨by rw [List.drop_eq_nil_of_le h0]; rfl, by rw [List.drop_eq_nil_of_le (by omega)]; rfl⟩

theorem Loads.pt_fd {xs ws : List Int} (h : Loads xs ws) {k : Nat} (hk : k ≤ xs.length) :
    ∃ P Q : Nat, FD (miE (xs.take k) (ws.take k)) (P : Int) (144000 * (P : Int)) ∧ FD (miE (xs.drop k).reverse (ws.drop k).reverse) (Q : Int) (144000 * (Q : Int)) ∧ P * Q ≤ 2299999 ∧ P ≤ 2299999 ∧ Q ≤ 2299999 ∧ FD (ptR xs ws k) ((P * Q : Nat) : Int) (288000 * ((P * Q : Nat) : Int)) := by
  obtain ⟨t1, t2⟩ := h.two hk
  obtain ⟨P, f1, p1⟩ := Loads.miE_end t1
  obtain ⟨Q, f2, p2⟩ := Loads.miE_end t2
  have hs : sumL (ws.take k) + sumL (ws.drop k).reverse = sumL ws := by
    rw [sumL_rev', ← sumL_app', List.take_append_drop]
  have s1 := sumW_pos (ws := ws.take k) fun w hw => h.1 w (List.mem_of_mem_take hw)
  have s2 := sumW_pos (ws := (ws.drop k).reverse) fun w hw => h.1 w (List.mem_of_mem_drop (List.mem_reverse.1 hw))
  have s3 := sumW_pos h.1
  have hn := h.2.2.2.2
  have hl := h.2.2.1
  have m : (P * Q) ^ 3 ≤ 3 ^ 40 := by
    rw [Nat.mul_pow]
    refine Nat.le_trans (Nat.mul_le_mul p1 p2) ?_
    rw [← Nat.pow_add]
    exact Nat.pow_le_pow_right (by omega) (by omega)
  have q1 : P ^ 3 ≤ 3 ^ 40 := Nat.le_trans p1 (Nat.pow_le_pow_right (by omega) (by omega))
  have q2 : Q ^ 3 ≤ 3 ^ 40 := Nat.le_trans p2 (Nat.pow_le_pow_right (by omega) (by omega))
  refine ⟨P, Q, f1, f2, cube_lim m, cube_lim q1, cube_lim q2, ?_⟩
  have := fd_sum f1 f2
  exact (this.to (D' := ((P * Q : Nat) : Int)) (by rw [Int.natCast_mul])).mono (by rw [Int.natCast_mul]; grind)

theorem Loads.pt_fit {xs ws : List Int} (h : Loads xs ws) {k j : Nat} (hk : k ≤ xs.length) (hj : j ≤ xs.length) : FitA (ptR xs ws k) (ptR xs ws j) := by
  obtain ⟨P, Q, _, _, b1, _, _, f1⟩ := h.pt_fd hk
  obtain ⟨P', Q', _, _, b2, _, _, f2⟩ := h.pt_fd hj
  have m := Nat.mul_le_mul b1 b2
  generalize P * Q = D at *
  generalize P' * Q' = E at *
  have e : (D : Int) * (E : Int) = ((D * E : Nat) : Int) := by rw [Int.natCast_mul]
  refine fitA_of f1 f2 ?_ ?_ (by rw [e]; omega)
  · rw [Int.mul_assoc, e]; omega
  · rw [Int.mul_assoc, Int.mul_comm (E : Int), e]; omega

structure PtFit (xs ws : List Int) (k : Nat) : Prop where
  a : FitA ((0 : Int) : Rat) (miE (xs.take k) (ws.take k))
  b : FitA ((0 : Int) : Rat) (miE (xs.drop k).reverse (ws.drop k).reverse)
  c : FitA (((0 : Int) : Rat) + miE (xs.take k) (ws.take k)) (miE (xs.drop k).reverse (ws.drop k).reverse)

theorem Loads.pt_fits {xs ws : List Int} (h : Loads xs ws) {k : Nat} (hk : k ≤ xs.length) : PtFit xs ws k := by
  obtain ⟨P, Q, f1, f2, b1, b2, b3, _⟩ := h.pt_fd hk
  have z : FD ((0 : Int) : Rat) 1 0 := FD.int (by omega)
  have e : (P : Int) * (Q : Int) = ((P * Q : Nat) : Int) := by rw [Int.natCast_mul]
  refine ⟨fitA_of z f1 (by omega) (by omega) (by omega), fitA_of z f2 (by omega) (by omega) (by omega), ?_⟩
  rw [show ((0 : Int) : Rat) + miE (xs.take k) (ws.take k) = miE (xs.take k) (ws.take k) by rw [intc0]; grind]
  refine fitA_of f1 f2 ?_ ?_ (by rw [e]; omega)
  · rw [Int.mul_assoc, e]; omega
  · rw [Int.mul_assoc, Int.mul_comm (Q : Int), e]; omega

end Go.Rx.Try
