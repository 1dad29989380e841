import Derived.Test.YtophpmdlgphihajFnExactBlocksOfD2
namespace Go.Rx.Try
open Go.Proofs
set_option maxRecDepth 100000
set_option maxHeartbeats 8000000
set_option linter.unusedSimpArgs false
set_option linter.unusedVariables false

theorem hrel_front {ι : Nat → Option Ref} {H : Heap} {w : World} (h : HRel ι H w) {id : Nat} {cs : List AV} (hg : H.get id = some ⟨true, cs⟩) (m : Nat) : HRel ι (H.put id (some ⟨true, cs.take m⟩)) w where
  fresh := h.fresh
  blk := fun i b hb => by
    rw [Heap.get_put] at hb
    by_cases hi : i = id
    · subst hi
      rw [if_pos rfl] at hb; injection hb with hb; subst hb
      obtain ⟨r, h1, c, e, h2, h3, h4, h5⟩ := h.blk i _ hg
      refine ⟨r, h1, c, e, h2, h3, ?_, ?_⟩
      · simp only [List.length_take] at h4 ⊢; omega
      · simp only at h5 ⊢
        have h6 := (VRelL.iff _ _).1 h5
        refine (VRelL.iff _ _).2 ⟨?_, fun k a v k1 k2 => ?_⟩
        · have := h6.1
          simp only [List.length_take, List.length_drop] at this ⊢; omega
        · rw [List.getElem?_take] at k1
          split at k1
          · rename_i hk
            refine h6.2 k a v k1 ?_
            rw [List.getElem?_take] at k2 ⊢
            split at k2
            · rename_i hk2
              rw [if_pos (by simp only [List.length_take] at hk2; omega)]; exact k2
            · cases k2
          · cases k1
    · rw [if_neg hi] at hb
      exact h.blk i b hb
  apart := fun i b r i' b' r' h1 h2 h3 h4 h5 h6 h7 => by
    rw [Heap.get_put] at h1 h2
    have g : ∀ {j : Nat} {c : Blk}, (if j = id then some ⟨true, cs.take m⟩ else H.get j) = some c → ∃ c', H.get j = some c' ∧ c'.rw = c.rw ∧ (c.cells ≠ [] → c'.cells ≠ []) := by
      intro j c hj
      by_cases hi : j = id
      · subst hi
        rw [if_pos rfl] at hj; injection hj with hj; subst hj
        exact ⟨_, hg, rfl, fun hne hh => hne (by simp only at hh ⊢; rw [hh]; simp)⟩
      · rw [if_neg hi] at hj; exact ⟨c, hj, rfl, fun h => h⟩
    obtain ⟨c, c1, c2, _⟩ := g h1
    obtain ⟨c', c1', c2', c3'⟩ := g h2
    exact h.apart i c r i' c' r' c1 c1' (by rw [c2, h3]) (h4.imp (fun h => by rw [c2', h]) c3') h5 h6 h7
  obs := h.obs
  oapart := h.oapart
  gl := h.gl

/-- the front of an own slice is handed back -/
theorem own_front {P : Program} {f : FuncId} {args : List AV} {H : Heap} {xs : List Int} (h : ACalls P f args H fun r H' => ∃ v zs, ∃ m : Nat, r = preW v m ∧ m ≤ zs.length ∧ zs.take m = xs ∧ Own H H' v 1 zs.length (ints zs) ∧ Le H H') :
    ACalls P f args H fun r H' => OwnI H H' r xs ∧ Le H H' := by
  refine acalls_weak h ?_
  rintro r H' ⟨v, zs, m, rfl, h1, h2, h3, h4⟩
  have hxl : xs.length = m := by rw [← h2, List.length_take]; omega
  obtain ⟨c1, c2⟩ := h3
  rcases c2 with ⟨rfl, c2⟩ | ⟨id, rfl, c3, c4, c5⟩
  · have hm : m = 0 := by omega
    have hx : xs = [] := List.eq_nil_of_length_eq_zero (by omega)
    subst hx
    exact ⟨H', ⟨⟨by simp [ints], .inl ⟨rfl, rfl⟩⟩, h4⟩, fun _ _ h => h, Nat.le_refl _, rfl, fun id b hb => ⟨b, hb, rfl⟩⟩
  · refine ⟨H'.put id (some ⟨true, (ints zs).take m⟩), ⟨⟨by simp [ints], .inr ⟨id, ?_, c3, c4, ?_⟩⟩, ⟨h4.size, fun i hi => ?_, h4.ob⟩⟩, fun ι w hH => hrel_front hH c5 m, Nat.le_refl _, rfl, fun i b hb => ?_⟩
    · rw [hxl]; rfl
    · rw [Heap.get_put, if_pos rfl, ← h2]; simp [ints, List.map_take]
    · rw [Heap.get_put, if_neg (by omega)]; exact h4.get i hi
    · rw [Heap.get_put] at hb
      by_cases hi : i = id
      · subst hi
        rw [if_pos rfl] at hb; injection hb with hb; subst hb
        exact ⟨_, c5, rfl⟩
      · rw [if_neg hi] at hb; exact ⟨b, hb, rfl⟩

theorem specPool_ok {H : Heap} {a b : AV} {xs ws : List Int} (ha : Ints H a xs) (hb : Ints H b ws) (hL : Loads xs ws) :
    ACalls Try.prog fn_spec_pool [a, b] H fun r H' => OwnI H H' r (blL xs ws) ∧ Le H H' := by
  refine own_front ?_
  have hl := hL.2.2.1
  have hn := hL.2.2.2.2
  refine code_spec_pool.go [.roI a xs.length xs, .roI b ws.length ws] ⟨⟨rfl, ha⟩, ⟨rfl, hb⟩, trivial⟩ (by simp) ?_
  unfold mc_spec_pool
  (repeat (first | refine gst (hk := ?_) | (with_reducible first | (refine gc_drw (h := ?_); intro _) | (refine gc_drw2 (h := ?_); intro _)) | (show GO _ _ _ _ _ (⟨some _, none, _⟩ :: _) _; first | refine go_op (hk := ?_) | (refine go_nw (hk := ?_); intro u; try simp only [llc, lln, lna, lza]) | (refine go_np (hk := ?_); intro id)) | (show GD _ _ _ _ _ _ _ (⟨some _, none, _⟩ :: _) _; first | refine gd_op (hk := ?_) | (refine gd_nw (hk := ?_); intro u; try simp only [llc, lln, lna, lza])) | (show GD2 _ _ _ _ _ _ _ _ _ _ _ _ _ _; first | refine gd2_nil rfl ?_ | refine gd2_op (hk := ?_) | (refine gd2_nw (hk := ?_); intro u; try simp only [llc, lln, lna, lza]) | refine gd2_l (hk := ?_) | refine gd2_lp (hk := ?_) | (refine gd2_newp (hk := ?_); intro id) | refine gd2_st (hk := ?_) | (refine gd2_bsl rfl rfl ?_; intro u; try simp only [llc, lln, lna, lza]) | (refine gd2_a (hk := ?_); intro u; try simp only [llc, lln, lna, lza])) | (show GO _ _ _ _ _ (⟨none, none, _⟩ :: _) _; refine go_st (hk := ?_)) | (show GD _ _ _ _ _ _ _ (⟨none, none, _⟩ :: _) _; refine gd_st (hk := ?_)) | (show GO _ _ _ _ _ (⟨_, some _, _⟩ :: _) _; first | refine go_in (hk := ?_) | refine go_out (hk := ?_) | refine go_void (hk := ?_)) | (show GK _ _ _ _ (blockK _ _ _); refine gk_past rfl ?_) | (show GC _ _ _ _ _ (.cond _ _ _) _; first | refine gc_yes (h1 := ?_) | refine gc_no (h1 := ?_))))
  refine gc_preW (v := u) (n := 0) (by exact Sel.auto) fun hu0 => ?_
  refine gc_loop (γ := Nat × AV × List Int) (fun g => [(0, a), (1, b), (5, preW g.2.1 (poS (rS xs ws) (rW ws) g.1).length), (6, .int .i64 (g.1 : Int))]) (fun g => [.rwI g.2.1 g.2.2.length g.2.2, .roI a xs.length xs, .roI b ws.length ws]) (fun g => g.1 ≤ xs.length ∧ g.2.2.take (poS (rS xs ws) (rW ws) g.1).length = stI (poS (rS xs ws) (rW ws) g.1)) (fun g => xs.length - g.1) (0, u, []) ⟨Nat.zero_le _, rfl⟩ (hE := by rw [show (poS (rS xs ws) (rW ws) 0).length = 0 from rfl, hu0]; (repeat (refine Cov.cons (by exact rfl) ?_)); exact Cov.nil) (hb := ?_)
  rintro ⟨k, u1, zs⟩ ⟨hk, hzs⟩ I ν m hk2
  simp only at hk hzs hk2 ⊢
  have hbk := (poS_ok (S := rS xs ws) hL.asc hk).1
  have hlen := hbk.len
  have hsl := stI_len (poS (rS xs ws) (rW ws) k)
  have hzl : (poS (rS xs ws) (rW ws) k).length ≤ zs.length := by
    have := congrArg List.length hzs
    rw [List.length_take, hsl] at this; omega
  (repeat (first | refine gst (hk := ?_) | (with_reducible first | (refine gc_drw (h := ?_); intro _) | (refine gc_drw2 (h := ?_); intro _)) | (show GO _ _ _ _ _ (⟨some _, none, _⟩ :: _) _; first | refine go_op (hk := ?_) | (refine go_nw (hk := ?_); intro u; try simp only [llc, lln, lna, lza]) | (refine go_np (hk := ?_); intro id)) | (show GD _ _ _ _ _ _ _ (⟨some _, none, _⟩ :: _) _; first | refine gd_op (hk := ?_) | (refine gd_nw (hk := ?_); intro u; try simp only [llc, lln, lna, lza])) | (show GD2 _ _ _ _ _ _ _ _ _ _ _ _ _ _; first | refine gd2_nil rfl ?_ | refine gd2_op (hk := ?_) | (refine gd2_nw (hk := ?_); intro u; try simp only [llc, lln, lna, lza]) | refine gd2_l (hk := ?_) | refine gd2_lp (hk := ?_) | (refine gd2_newp (hk := ?_); intro id) | refine gd2_st (hk := ?_) | (refine gd2_bsl rfl rfl ?_; intro u; try simp only [llc, lln, lna, lza]) | (refine gd2_a (hk := ?_); intro u; try simp only [llc, lln, lna, lza])) | (show GO _ _ _ _ _ (⟨none, none, _⟩ :: _) _; refine go_st (hk := ?_)) | (show GD _ _ _ _ _ _ _ (⟨none, none, _⟩ :: _) _; refine gd_st (hk := ?_)) | (show GO _ _ _ _ _ (⟨_, some _, _⟩ :: _) _; first | refine go_in (hk := ?_) | refine go_out (hk := ?_) | refine go_void (hk := ?_)) | (show GK _ _ _ _ (blockK _ _ _); refine gk_past rfl ?_) | (show GC _ _ _ _ _ (.cond _ _ _) _; first | refine gc_yes (h1 := ?_) | refine gc_no (h1 := ?_))))
  refine gc_cond rfl (fun h => ?_) (fun h => ?_)
  · have hk3 : ∀ (v : AV) (zs : List Int), zs.take (poS (rS xs ws) (rW ws) (k + 1)).length = stI (poS (rS xs ws) (rW ws) (k + 1)) → _ := fun v zs hz => hk2 (k + 1, v, zs) ⟨by dsimp only; omega, hz⟩ (by dsimp only; omega)
    have hpos : poS (rS xs ws) (rW ws) (k + 1) = popS (rS xs ws) (rW ws) (k + 1) (k :: poS (rS xs ws) (rW ws) k) := rfl
    have hB : Bks (rS xs ws) (rW ws) (k :: poS (rS xs ws) (rW ws) k) (k + 1) := by
      refine ⟨by omega, fun t h1 h2 => ?_, hbk⟩
      have w := hL.asc k (by omega)
      have q := mnA_mul (S := rS xs ws) w
      rcases Nat.lt_or_ge k t with h3 | h3
      · obtain rfl : t = k + 1 := by omega
        grind
      · obtain rfl : t = k := by omega
        grind
    simp only at hk3
    generalize hst : poS (rS xs ws) (rW ws) k = st at *
    (repeat (first | refine gst (hk := ?_) | (with_reducible first | (refine gc_drw (h := ?_); intro _) | (refine gc_drw2 (h := ?_); intro _)) | (show GO _ _ _ _ _ (⟨some _, none, _⟩ :: _) _; first | refine go_op (hk := ?_) | (refine go_nw (hk := ?_); intro u; try simp only [llc, lln, lna, lza]) | (refine go_np (hk := ?_); intro id)) | (show GD _ _ _ _ _ _ _ (⟨some _, none, _⟩ :: _) _; first | refine gd_op (hk := ?_) | (refine gd_nw (hk := ?_); intro u; try simp only [llc, lln, lna, lza])) | (show GD2 _ _ _ _ _ _ _ _ _ _ _ _ _ _; first | refine gd2_nil rfl ?_ | refine gd2_op (hk := ?_) | (refine gd2_nw (hk := ?_); intro u; try simp only [llc, lln, lna, lza]) | refine gd2_l (hk := ?_) | refine gd2_lp (hk := ?_) | (refine gd2_newp (hk := ?_); intro id) | refine gd2_st (hk := ?_) | (refine gd2_bsl rfl rfl ?_; intro u; try simp only [llc, lln, lna, lza]) | (refine gd2_a (hk := ?_); intro u; try simp only [llc, lln, lna, lza])) | (show GO _ _ _ _ _ (⟨none, none, _⟩ :: _) _; refine go_st (hk := ?_)) | (show GD _ _ _ _ _ _ _ (⟨none, none, _⟩ :: _) _; refine gd_st (hk := ?_)) | (show GO _ _ _ _ _ (⟨_, some _, _⟩ :: _) _; first | refine go_in (hk := ?_) | refine go_out (hk := ?_) | refine go_void (hk := ?_)) | (show GK _ _ _ _ (blockK _ _ _); refine gk_past rfl ?_) | (show GC _ _ _ _ _ (.cond _ _ _) _; first | refine gc_yes (h1 := ?_) | refine gc_no (h1 := ?_))))
    refine go_new rfl (stp_appp (h := st.length) rfl rfl (by exact Sel.auto) (by exact Has.auto) hzl (by omega) (by omega)) ?_
    intro u2
    rw [hzs, show stI st ++ [(k : Int)] = stI (k :: st) from rfl]
    (repeat (first | refine gst (hk := ?_) | (with_reducible first | (refine gc_drw (h := ?_); intro _) | (refine gc_drw2 (h := ?_); intro _)) | (show GO _ _ _ _ _ (⟨some _, none, _⟩ :: _) _; first | refine go_op (hk := ?_) | (refine go_nw (hk := ?_); intro u; try simp only [llc, lln, lna, lza]) | (refine go_np (hk := ?_); intro id)) | (show GD _ _ _ _ _ _ _ (⟨some _, none, _⟩ :: _) _; first | refine gd_op (hk := ?_) | (refine gd_nw (hk := ?_); intro u; try simp only [llc, lln, lna, lza])) | (show GD2 _ _ _ _ _ _ _ _ _ _ _ _ _ _; first | refine gd2_nil rfl ?_ | refine gd2_op (hk := ?_) | (refine gd2_nw (hk := ?_); intro u; try simp only [llc, lln, lna, lza]) | refine gd2_l (hk := ?_) | refine gd2_lp (hk := ?_) | (refine gd2_newp (hk := ?_); intro id) | refine gd2_st (hk := ?_) | (refine gd2_bsl rfl rfl ?_; intro u; try simp only [llc, lln, lna, lza]) | (refine gd2_a (hk := ?_); intro u; try simp only [llc, lln, lna, lza])) | (show GO _ _ _ _ _ (⟨none, none, _⟩ :: _) _; refine go_st (hk := ?_)) | (show GD _ _ _ _ _ _ _ (⟨none, none, _⟩ :: _) _; refine gd_st (hk := ?_)) | (show GO _ _ _ _ _ (⟨_, some _, _⟩ :: _) _; first | refine go_in (hk := ?_) | refine go_out (hk := ?_) | refine go_void (hk := ?_)) | (show GK _ _ _ _ (blockK _ _ _); refine gk_past rfl ?_) | (show GC _ _ _ _ _ (.cond _ _ _) _; first | refine gc_yes (h1 := ?_) | refine gc_no (h1 := ?_))))
    refine gc_preW (v := u2) (n := st.length + 1) (by exact Sel.auto) fun hu2 => ?_
    refine gc_loop (γ := List Nat) (fun g => [(0, a), (1, b), (5, preW u2 g.length), (6, .int .i64 (k : Int))]) (fun g => [.rwI u2 (st.length + 1) (stI (k :: st)), .roI a xs.length xs, .roI b ws.length ws]) (fun g => popS (rS xs ws) (rW ws) (k + 1) g = poS (rS xs ws) (rW ws) (k + 1) ∧ Bks (rS xs ws) (rW ws) g (k + 1) ∧ g.length ≤ st.length + 1 ∧ (stI (k :: st)).take g.length = stI g) (fun g => g.length) (k :: st) ⟨hpos.symm, hB, by simp, by rw [← stI_len (k :: st), List.take_length]⟩ (hE := by rw [List.length_cons, hu2]; (repeat (refine Cov.cons (by exact rfl) ?_)); exact Cov.nil) (hb := ?_)
    rintro s ⟨hp, hbs, hle, htk⟩ I2 ν2 m2 hk4
    have hls := stI_len s
    have hlk := hbs.len
    (repeat (first | refine gst (hk := ?_) | (with_reducible first | (refine gc_drw (h := ?_); intro _) | (refine gc_drw2 (h := ?_); intro _)) | (show GO _ _ _ _ _ (⟨some _, none, _⟩ :: _) _; first | refine go_op (hk := ?_) | (refine go_nw (hk := ?_); intro u; try simp only [llc, lln, lna, lza]) | (refine go_np (hk := ?_); intro id)) | (show GD _ _ _ _ _ _ _ (⟨some _, none, _⟩ :: _) _; first | refine gd_op (hk := ?_) | (refine gd_nw (hk := ?_); intro u; try simp only [llc, lln, lna, lza])) | (show GD2 _ _ _ _ _ _ _ _ _ _ _ _ _ _; first | refine gd2_nil rfl ?_ | refine gd2_op (hk := ?_) | (refine gd2_nw (hk := ?_); intro u; try simp only [llc, lln, lna, lza]) | refine gd2_l (hk := ?_) | refine gd2_lp (hk := ?_) | (refine gd2_newp (hk := ?_); intro id) | refine gd2_st (hk := ?_) | (refine gd2_bsl rfl rfl ?_; intro u; try simp only [llc, lln, lna, lza]) | (refine gd2_a (hk := ?_); intro u; try simp only [llc, lln, lna, lza])) | (show GO _ _ _ _ _ (⟨none, none, _⟩ :: _) _; refine go_st (hk := ?_)) | (show GD _ _ _ _ _ _ _ (⟨none, none, _⟩ :: _) _; refine gd_st (hk := ?_)) | (show GO _ _ _ _ _ (⟨_, some _, _⟩ :: _) _; first | refine go_in (hk := ?_) | refine go_out (hk := ?_) | refine go_void (hk := ?_)) | (show GK _ _ _ _ (blockK _ _ _); refine gk_past rfl ?_) | (show GC _ _ _ _ _ (.cond _ _ _) _; first | refine gc_yes (h1 := ?_) | refine gc_no (h1 := ?_))))
    refine go_is rfl (stp_lenp (h := s.length) rfl (by exact Sel.auto) hle) ?_
    (repeat (first | refine gst (hk := ?_) | (with_reducible first | (refine gc_drw (h := ?_); intro _) | (refine gc_drw2 (h := ?_); intro _)) | (show GO _ _ _ _ _ (⟨some _, none, _⟩ :: _) _; first | refine go_op (hk := ?_) | (refine go_nw (hk := ?_); intro u; try simp only [llc, lln, lna, lza]) | (refine go_np (hk := ?_); intro id)) | (show GD _ _ _ _ _ _ _ (⟨some _, none, _⟩ :: _) _; first | refine gd_op (hk := ?_) | (refine gd_nw (hk := ?_); intro u; try simp only [llc, lln, lna, lza])) | (show GD2 _ _ _ _ _ _ _ _ _ _ _ _ _ _; first | refine gd2_nil rfl ?_ | refine gd2_op (hk := ?_) | (refine gd2_nw (hk := ?_); intro u; try simp only [llc, lln, lna, lza]) | refine gd2_l (hk := ?_) | refine gd2_lp (hk := ?_) | (refine gd2_newp (hk := ?_); intro id) | refine gd2_st (hk := ?_) | (refine gd2_bsl rfl rfl ?_; intro u; try simp only [llc, lln, lna, lza]) | (refine gd2_a (hk := ?_); intro u; try simp only [llc, lln, lna, lza])) | (show GO _ _ _ _ _ (⟨none, none, _⟩ :: _) _; refine go_st (hk := ?_)) | (show GD _ _ _ _ _ _ _ (⟨none, none, _⟩ :: _) _; refine gd_st (hk := ?_)) | (show GO _ _ _ _ _ (⟨_, some _, _⟩ :: _) _; first | refine go_in (hk := ?_) | refine go_out (hk := ?_) | refine go_void (hk := ?_)) | (show GK _ _ _ _ (blockK _ _ _); refine gk_past rfl ?_) | (show GC _ _ _ _ _ (.cond _ _ _) _; first | refine gc_yes (h1 := ?_) | refine gc_no (h1 := ?_))))
    refine gc_cond rfl (fun h2 => ?_) (fun h2 => ?_)
    · match s, hbs, hp with
      | [], _, _ => simp at h2
      | [_], _, _ => simp at h2
      | c :: d :: r, hbs, hp =>
        obtain ⟨n1, n2⟩ := nth_stI2 (a := c) (b := d) (r := r)
        have hc1 := hbs.1
        have hc2 := hbs.2.2.1
        simp only [List.length_cons] at hls hlk h2 hle htk hk4 ⊢
        have hnt : ∀ i, i < r.length + 1 + 1 → nth (stI (k :: st)) i = nth (stI (c :: d :: r)) i := fun i hi => by rw [← htk, nth_take hi]
        have hlk2 : (stI (k :: st)).length = st.length + 1 := stI_len (k :: st)
        (repeat (first | refine gst (hk := ?_) | (with_reducible first | (refine gc_drw (h := ?_); intro _) | (refine gc_drw2 (h := ?_); intro _)) | (show GO _ _ _ _ _ (⟨some _, none, _⟩ :: _) _; first | refine go_op (hk := ?_) | (refine go_nw (hk := ?_); intro u; try simp only [llc, lln, lna, lza]) | (refine go_np (hk := ?_); intro id)) | (show GD _ _ _ _ _ _ _ (⟨some _, none, _⟩ :: _) _; first | refine gd_op (hk := ?_) | (refine gd_nw (hk := ?_); intro u; try simp only [llc, lln, lna, lza])) | (show GD2 _ _ _ _ _ _ _ _ _ _ _ _ _ _; first | refine gd2_nil rfl ?_ | refine gd2_op (hk := ?_) | (refine gd2_nw (hk := ?_); intro u; try simp only [llc, lln, lna, lza]) | refine gd2_l (hk := ?_) | refine gd2_lp (hk := ?_) | (refine gd2_newp (hk := ?_); intro id) | refine gd2_st (hk := ?_) | (refine gd2_bsl rfl rfl ?_; intro u; try simp only [llc, lln, lna, lza]) | (refine gd2_a (hk := ?_); intro u; try simp only [llc, lln, lna, lza])) | (show GO _ _ _ _ _ (⟨none, none, _⟩ :: _) _; refine go_st (hk := ?_)) | (show GD _ _ _ _ _ _ _ (⟨none, none, _⟩ :: _) _; refine gd_st (hk := ?_)) | (show GO _ _ _ _ _ (⟨_, some _, _⟩ :: _) _; first | refine go_in (hk := ?_) | refine go_out (hk := ?_) | refine go_void (hk := ?_)) | (show GK _ _ _ _ (blockK _ _ _); refine gk_past rfl ?_) | (show GC _ _ _ _ _ (.cond _ _ _) _; first | refine gc_yes (h1 := ?_) | refine gc_no (h1 := ?_))))
        refine go_is rfl (stp_lenp (h := r.length + 1 + 1) rfl (by exact Sel.auto) hle) ?_
        (repeat (first | refine gst (hk := ?_) | (with_reducible first | (refine gc_drw (h := ?_); intro _) | (refine gc_drw2 (h := ?_); intro _)) | (show GO _ _ _ _ _ (⟨some _, none, _⟩ :: _) _; first | refine go_op (hk := ?_) | (refine go_nw (hk := ?_); intro u; try simp only [llc, lln, lna, lza]) | (refine go_np (hk := ?_); intro id)) | (show GD _ _ _ _ _ _ _ (⟨some _, none, _⟩ :: _) _; first | refine gd_op (hk := ?_) | (refine gd_nw (hk := ?_); intro u; try simp only [llc, lln, lna, lza])) | (show GD2 _ _ _ _ _ _ _ _ _ _ _ _ _ _; first | refine gd2_nil rfl ?_ | refine gd2_op (hk := ?_) | (refine gd2_nw (hk := ?_); intro u; try simp only [llc, lln, lna, lza]) | refine gd2_l (hk := ?_) | refine gd2_lp (hk := ?_) | (refine gd2_newp (hk := ?_); intro id) | refine gd2_st (hk := ?_) | (refine gd2_bsl rfl rfl ?_; intro u; try simp only [llc, lln, lna, lza]) | (refine gd2_a (hk := ?_); intro u; try simp only [llc, lln, lna, lza])) | (show GO _ _ _ _ _ (⟨none, none, _⟩ :: _) _; refine go_st (hk := ?_)) | (show GD _ _ _ _ _ _ _ (⟨none, none, _⟩ :: _) _; refine gd_st (hk := ?_)) | (show GO _ _ _ _ _ (⟨_, some _, _⟩ :: _) _; first | refine go_in (hk := ?_) | refine go_out (hk := ?_) | refine go_void (hk := ?_)) | (show GK _ _ _ _ (blockK _ _ _); refine gk_past rfl ?_) | (show GC _ _ _ _ _ (.cond _ _ _) _; first | refine gc_yes (h1 := ?_) | refine gc_no (h1 := ?_))))
        refine gc_drw4n (qtTab [(fn_spec_mean, dOne [a, b, .int .i64 (d : Int), .int .i64 ((c : Int) - 1)] (frV (mnR xs ws d c)))]) (fun H0 H hH0 hg => qtTab_cons (dOne_ok code_spec_mean.callable (dMean_ok hH0 hg (by exact Has.auto) (by exact Has.auto) hL (by omega) (by omega) rfl)) qtTab_nil) (fun H0 hH0 => ?_)
        repeat (refine gd4_op (hk := ?_))
        refine gd4_is rfl (stp_ixap (i := r.length) rfl rfl (by omega) (by exact Sel.auto) hle (by omega)) ?_
        refine gd4_ld (u := u2.elem r.length) rfl (stp_ld (i := r.length)) ?_
        repeat (refine gd4_op (hk := ?_))
        refine gd4_is rfl (stp_ixap (i := r.length + 1) rfl rfl (by omega) (by exact Sel.auto) hle (by omega)) ?_
        refine gd4_ld (u := u2.elem (r.length + 1)) rfl (stp_ld (i := r.length + 1)) ?_
        rw [hnt _ (by omega), hnt _ (by omega), n1, n2]
        repeat (refine gd4_op (hk := ?_))
        refine gd4_call rfl dOne_is ?_
        refine gd4_new ?_
        refine gd4_st rfl stp_stag ?_
        have b1 := vid_old (v := u2) (es := 1) (n := st.length + 1) (cs := ints (stI (k :: st))) (i := r.length) hH0 (by exact Has.auto)
        have b2 := vid_old (v := u2) (es := 1) (n := st.length + 1) (cs := ints (stI (k :: st))) (i := r.length + 1) hH0 (by exact Has.auto)
        refine gd4_nil (pairs_on rfl rfl b1 (pairs_on rfl rfl b2 trivial)) (by simp [vid]) ?_
        (repeat (first | refine gst (hk := ?_) | (with_reducible first | (refine gc_drw (h := ?_); intro _) | (refine gc_drw2 (h := ?_); intro _)) | (show GO _ _ _ _ _ (⟨some _, none, _⟩ :: _) _; first | refine go_op (hk := ?_) | (refine go_nw (hk := ?_); intro u; try simp only [llc, lln, lna, lza]) | (refine go_np (hk := ?_); intro id)) | (show GD _ _ _ _ _ _ _ (⟨some _, none, _⟩ :: _) _; first | refine gd_op (hk := ?_) | (refine gd_nw (hk := ?_); intro u; try simp only [llc, lln, lna, lza])) | (show GD2 _ _ _ _ _ _ _ _ _ _ _ _ _ _; first | refine gd2_nil rfl ?_ | refine gd2_op (hk := ?_) | (refine gd2_nw (hk := ?_); intro u; try simp only [llc, lln, lna, lza]) | refine gd2_l (hk := ?_) | refine gd2_lp (hk := ?_) | (refine gd2_newp (hk := ?_); intro id) | refine gd2_st (hk := ?_) | (refine gd2_bsl rfl rfl ?_; intro u; try simp only [llc, lln, lna, lza]) | (refine gd2_a (hk := ?_); intro u; try simp only [llc, lln, lna, lza])) | (show GO _ _ _ _ _ (⟨none, none, _⟩ :: _) _; refine go_st (hk := ?_)) | (show GD _ _ _ _ _ _ _ (⟨none, none, _⟩ :: _) _; refine gd_st (hk := ?_)) | (show GO _ _ _ _ _ (⟨_, some _, _⟩ :: _) _; first | refine go_in (hk := ?_) | refine go_out (hk := ?_) | refine go_void (hk := ?_)) | (show GK _ _ _ _ (blockK _ _ _); refine gk_past rfl ?_) | (show GC _ _ _ _ _ (.cond _ _ _) _; first | refine gc_yes (h1 := ?_) | refine gc_no (h1 := ?_))))
        refine go_is rfl (stp_ixap (i := r.length + 1) rfl rfl (by omega) (by exact Sel.auto) hle (by omega)) ?_
        (repeat (first | refine gst (hk := ?_) | (with_reducible first | (refine gc_drw (h := ?_); intro _) | (refine gc_drw2 (h := ?_); intro _)) | (show GO _ _ _ _ _ (⟨some _, none, _⟩ :: _) _; first | refine go_op (hk := ?_) | (refine go_nw (hk := ?_); intro u; try simp only [llc, lln, lna, lza]) | (refine go_np (hk := ?_); intro id)) | (show GD _ _ _ _ _ _ _ (⟨some _, none, _⟩ :: _) _; first | refine gd_op (hk := ?_) | (refine gd_nw (hk := ?_); intro u; try simp only [llc, lln, lna, lza])) | (show GD2 _ _ _ _ _ _ _ _ _ _ _ _ _ _; first | refine gd2_nil rfl ?_ | refine gd2_op (hk := ?_) | (refine gd2_nw (hk := ?_); intro u; try simp only [llc, lln, lna, lza]) | refine gd2_l (hk := ?_) | refine gd2_lp (hk := ?_) | (refine gd2_newp (hk := ?_); intro id) | refine gd2_st (hk := ?_) | (refine gd2_bsl rfl rfl ?_; intro u; try simp only [llc, lln, lna, lza]) | (refine gd2_a (hk := ?_); intro u; try simp only [llc, lln, lna, lza])) | (show GO _ _ _ _ _ (⟨none, none, _⟩ :: _) _; refine go_st (hk := ?_)) | (show GD _ _ _ _ _ _ _ (⟨none, none, _⟩ :: _) _; refine gd_st (hk := ?_)) | (show GO _ _ _ _ _ (⟨_, some _, _⟩ :: _) _; first | refine go_in (hk := ?_) | refine go_out (hk := ?_) | refine go_void (hk := ?_)) | (show GK _ _ _ _ (blockK _ _ _); refine gk_past rfl ?_) | (show GC _ _ _ _ _ (.cond _ _ _) _; first | refine gc_yes (h1 := ?_) | refine gc_no (h1 := ?_))))
        rw [hnt _ (by omega), n2]
        refine go_callp rfl code_spec_mean.callable (fun H hH => specMean_ok (e := k + 1) (hH.ints (by exact Has.auto)) (hH.ints (by exact Has.auto)) hL (by omega) (by omega) (by omega)) ?_
        (repeat (first | refine gst (hk := ?_) | (with_reducible first | (refine gc_drw (h := ?_); intro _) | (refine gc_drw2 (h := ?_); intro _)) | (show GO _ _ _ _ _ (⟨some _, none, _⟩ :: _) _; first | refine go_op (hk := ?_) | (refine go_nw (hk := ?_); intro u; try simp only [llc, lln, lna, lza]) | (refine go_np (hk := ?_); intro id)) | (show GD _ _ _ _ _ _ _ (⟨some _, none, _⟩ :: _) _; first | refine gd_op (hk := ?_) | (refine gd_nw (hk := ?_); intro u; try simp only [llc, lln, lna, lza])) | (show GD2 _ _ _ _ _ _ _ _ _ _ _ _ _ _; first | refine gd2_nil rfl ?_ | refine gd2_op (hk := ?_) | (refine gd2_nw (hk := ?_); intro u; try simp only [llc, lln, lna, lza]) | refine gd2_l (hk := ?_) | refine gd2_lp (hk := ?_) | (refine gd2_newp (hk := ?_); intro id) | refine gd2_st (hk := ?_) | (refine gd2_bsl rfl rfl ?_; intro u; try simp only [llc, lln, lna, lza]) | (refine gd2_a (hk := ?_); intro u; try simp only [llc, lln, lna, lza])) | (show GO _ _ _ _ _ (⟨none, none, _⟩ :: _) _; refine go_st (hk := ?_)) | (show GD _ _ _ _ _ _ _ (⟨none, none, _⟩ :: _) _; refine gd_st (hk := ?_)) | (show GO _ _ _ _ _ (⟨_, some _, _⟩ :: _) _; first | refine go_in (hk := ?_) | refine go_out (hk := ?_) | refine go_void (hk := ?_)) | (show GK _ _ _ _ (blockK _ _ _); refine gk_past rfl ?_) | (show GC _ _ _ _ _ (.cond _ _ _) _; first | refine gc_yes (h1 := ?_) | refine gc_no (h1 := ?_))))
        refine go_callp rfl code_spec_less.callable (fun H hH => specLess_ok (hL.fits (by omega) (by omega) (by omega) (by omega))) ?_
        (repeat (first | refine gst (hk := ?_) | (with_reducible first | (refine gc_drw (h := ?_); intro _) | (refine gc_drw2 (h := ?_); intro _)) | (show GO _ _ _ _ _ (⟨some _, none, _⟩ :: _) _; first | refine go_op (hk := ?_) | (refine go_nw (hk := ?_); intro u; try simp only [llc, lln, lna, lza]) | (refine go_np (hk := ?_); intro id)) | (show GD _ _ _ _ _ _ _ (⟨some _, none, _⟩ :: _) _; first | refine gd_op (hk := ?_) | (refine gd_nw (hk := ?_); intro u; try simp only [llc, lln, lna, lza])) | (show GD2 _ _ _ _ _ _ _ _ _ _ _ _ _ _; first | refine gd2_nil rfl ?_ | refine gd2_op (hk := ?_) | (refine gd2_nw (hk := ?_); intro u; try simp only [llc, lln, lna, lza]) | refine gd2_l (hk := ?_) | refine gd2_lp (hk := ?_) | (refine gd2_newp (hk := ?_); intro id) | refine gd2_st (hk := ?_) | (refine gd2_bsl rfl rfl ?_; intro u; try simp only [llc, lln, lna, lza]) | (refine gd2_a (hk := ?_); intro u; try simp only [llc, lln, lna, lza])) | (show GO _ _ _ _ _ (⟨none, none, _⟩ :: _) _; refine go_st (hk := ?_)) | (show GD _ _ _ _ _ _ _ (⟨none, none, _⟩ :: _) _; refine gd_st (hk := ?_)) | (show GO _ _ _ _ _ (⟨_, some _, _⟩ :: _) _; first | refine go_in (hk := ?_) | refine go_out (hk := ?_) | refine go_void (hk := ?_)) | (show GK _ _ _ _ (blockK _ _ _); refine gk_past rfl ?_) | (show GC _ _ _ _ _ (.cond _ _ _) _; first | refine gc_yes (h1 := ?_) | refine gc_no (h1 := ?_))))
        refine gc_cond rfl (fun h3 => ?_) (fun h3 => ?_)
        · have hlt : mnA (rS xs ws) (rW ws) d c < mnA (rS xs ws) (rW ws) c (k + 1) := by rw [mnR_mnA, mnR_mnA]; exact h3
          have he : popS (rS xs ws) (rW ws) (k + 1) (c :: d :: r) = c :: d :: r := if_pos hlt
          rw [he] at hp
          rw [← hp] at hk3
          have hk5 := hk3 u2 (stI (k :: st)) htk
          rw [hlk2] at hk5
          (repeat (first | refine gst (hk := ?_) | (with_reducible first | (refine gc_drw (h := ?_); intro _) | (refine gc_drw2 (h := ?_); intro _)) | (show GO _ _ _ _ _ (⟨some _, none, _⟩ :: _) _; first | refine go_op (hk := ?_) | (refine go_nw (hk := ?_); intro u; try simp only [llc, lln, lna, lza]) | (refine go_np (hk := ?_); intro id)) | (show GD _ _ _ _ _ _ _ (⟨some _, none, _⟩ :: _) _; first | refine gd_op (hk := ?_) | (refine gd_nw (hk := ?_); intro u; try simp only [llc, lln, lna, lza])) | (show GD2 _ _ _ _ _ _ _ _ _ _ _ _ _ _; first | refine gd2_nil rfl ?_ | refine gd2_op (hk := ?_) | (refine gd2_nw (hk := ?_); intro u; try simp only [llc, lln, lna, lza]) | refine gd2_l (hk := ?_) | refine gd2_lp (hk := ?_) | (refine gd2_newp (hk := ?_); intro id) | refine gd2_st (hk := ?_) | (refine gd2_bsl rfl rfl ?_; intro u; try simp only [llc, lln, lna, lza]) | (refine gd2_a (hk := ?_); intro u; try simp only [llc, lln, lna, lza])) | (show GO _ _ _ _ _ (⟨none, none, _⟩ :: _) _; refine go_st (hk := ?_)) | (show GD _ _ _ _ _ _ _ (⟨none, none, _⟩ :: _) _; refine gd_st (hk := ?_)) | (show GO _ _ _ _ _ (⟨_, some _, _⟩ :: _) _; first | refine go_in (hk := ?_) | refine go_out (hk := ?_) | refine go_void (hk := ?_)) | (show GK _ _ _ _ (blockK _ _ _); refine gk_past rfl ?_) | (show GC _ _ _ _ _ (.cond _ _ _) _; first | refine gc_yes (h1 := ?_) | refine gc_no (h1 := ?_))))
          exact gk_next hk5
        · have hlt : ¬ mnA (rS xs ws) (rW ws) d c < mnA (rS xs ws) (rW ws) c (k + 1) := by rw [mnR_mnA, mnR_mnA]; exact h3
          have he : popS (rS xs ws) (rW ws) (k + 1) (c :: d :: r) = popS (rS xs ws) (rW ws) (k + 1) (d :: r) := if_neg hlt
          rw [he] at hp
          have hj := hbs.join hL.asc (by omega) (Rat.not_lt.1 hlt)
          (repeat (first | refine gst (hk := ?_) | (with_reducible first | (refine gc_drw (h := ?_); intro _) | (refine gc_drw2 (h := ?_); intro _)) | (show GO _ _ _ _ _ (⟨some _, none, _⟩ :: _) _; first | refine go_op (hk := ?_) | (refine go_nw (hk := ?_); intro u; try simp only [llc, lln, lna, lza]) | (refine go_np (hk := ?_); intro id)) | (show GD _ _ _ _ _ _ _ (⟨some _, none, _⟩ :: _) _; first | refine gd_op (hk := ?_) | (refine gd_nw (hk := ?_); intro u; try simp only [llc, lln, lna, lza])) | (show GD2 _ _ _ _ _ _ _ _ _ _ _ _ _ _; first | refine gd2_nil rfl ?_ | refine gd2_op (hk := ?_) | (refine gd2_nw (hk := ?_); intro u; try simp only [llc, lln, lna, lza]) | refine gd2_l (hk := ?_) | refine gd2_lp (hk := ?_) | (refine gd2_newp (hk := ?_); intro id) | refine gd2_st (hk := ?_) | (refine gd2_bsl rfl rfl ?_; intro u; try simp only [llc, lln, lna, lza]) | (refine gd2_a (hk := ?_); intro u; try simp only [llc, lln, lna, lza])) | (show GO _ _ _ _ _ (⟨none, none, _⟩ :: _) _; refine go_st (hk := ?_)) | (show GD _ _ _ _ _ _ _ (⟨none, none, _⟩ :: _) _; refine gd_st (hk := ?_)) | (show GO _ _ _ _ _ (⟨_, some _, _⟩ :: _) _; first | refine go_in (hk := ?_) | refine go_out (hk := ?_) | refine go_void (hk := ?_)) | (show GK _ _ _ _ (blockK _ _ _); refine gk_past rfl ?_) | (show GC _ _ _ _ _ (.cond _ _ _) _; first | refine gc_yes (h1 := ?_) | refine gc_no (h1 := ?_))))
          refine go_is rfl (stp_slp (l := r.length + 1) rfl (by exact rfl) (by exact Sel.auto) hle (by omega)) ?_
          (repeat (first | refine gst (hk := ?_) | (with_reducible first | (refine gc_drw (h := ?_); intro _) | (refine gc_drw2 (h := ?_); intro _)) | (show GO _ _ _ _ _ (⟨some _, none, _⟩ :: _) _; first | refine go_op (hk := ?_) | (refine go_nw (hk := ?_); intro u; try simp only [llc, lln, lna, lza]) | (refine go_np (hk := ?_); intro id)) | (show GD _ _ _ _ _ _ _ (⟨some _, none, _⟩ :: _) _; first | refine gd_op (hk := ?_) | (refine gd_nw (hk := ?_); intro u; try simp only [llc, lln, lna, lza])) | (show GD2 _ _ _ _ _ _ _ _ _ _ _ _ _ _; first | refine gd2_nil rfl ?_ | refine gd2_op (hk := ?_) | (refine gd2_nw (hk := ?_); intro u; try simp only [llc, lln, lna, lza]) | refine gd2_l (hk := ?_) | refine gd2_lp (hk := ?_) | (refine gd2_newp (hk := ?_); intro id) | refine gd2_st (hk := ?_) | (refine gd2_bsl rfl rfl ?_; intro u; try simp only [llc, lln, lna, lza]) | (refine gd2_a (hk := ?_); intro u; try simp only [llc, lln, lna, lza])) | (show GO _ _ _ _ _ (⟨none, none, _⟩ :: _) _; refine go_st (hk := ?_)) | (show GD _ _ _ _ _ _ _ (⟨none, none, _⟩ :: _) _; refine gd_st (hk := ?_)) | (show GO _ _ _ _ _ (⟨_, some _, _⟩ :: _) _; first | refine go_in (hk := ?_) | refine go_out (hk := ?_) | refine go_void (hk := ?_)) | (show GK _ _ _ _ (blockK _ _ _); refine gk_past rfl ?_) | (show GC _ _ _ _ _ (.cond _ _ _) _; first | refine gc_yes (h1 := ?_) | refine gc_no (h1 := ?_))))
          refine gk_next (hk4 (d :: r) ⟨hp, hj, by simp only [List.length_cons]; omega, ?_⟩ (by simp only [List.length_cons]; omega))
          have := congrArg (List.take (r.length + 1)) htk
          rw [List.take_take, Nat.min_eq_left (by omega)] at this
          simp only [List.length_cons]
          rw [this, stI, List.take_append_of_le_length (by rw [stI_len]; simp)]
          exact List.take_of_length_le (by rw [stI_len]; simp)
    · have he : popS (rS xs ws) (rW ws) (k + 1) s = s := by
        match s, h2 with
        | [], _ => rfl
        | [_], _ => rfl
        | c :: d :: r, h2 => simp only [List.length_cons] at h2; omega
      rw [he] at hp
      rw [← hp] at hk3
      have hk5 := hk3 u2 (stI (k :: st)) htk
      rw [show (stI (k :: st)).length = st.length + 1 from stI_len (k :: st)] at hk5
      (repeat (first | refine gst (hk := ?_) | (with_reducible first | (refine gc_drw (h := ?_); intro _) | (refine gc_drw2 (h := ?_); intro _)) | (show GO _ _ _ _ _ (⟨some _, none, _⟩ :: _) _; first | refine go_op (hk := ?_) | (refine go_nw (hk := ?_); intro u; try simp only [llc, lln, lna, lza]) | (refine go_np (hk := ?_); intro id)) | (show GD _ _ _ _ _ _ _ (⟨some _, none, _⟩ :: _) _; first | refine gd_op (hk := ?_) | (refine gd_nw (hk := ?_); intro u; try simp only [llc, lln, lna, lza])) | (show GD2 _ _ _ _ _ _ _ _ _ _ _ _ _ _; first | refine gd2_nil rfl ?_ | refine gd2_op (hk := ?_) | (refine gd2_nw (hk := ?_); intro u; try simp only [llc, lln, lna, lza]) | refine gd2_l (hk := ?_) | refine gd2_lp (hk := ?_) | (refine gd2_newp (hk := ?_); intro id) | refine gd2_st (hk := ?_) | (refine gd2_bsl rfl rfl ?_; intro u; try simp only [llc, lln, lna, lza]) | (refine gd2_a (hk := ?_); intro u; try simp only [llc, lln, lna, lza])) | (show GO _ _ _ _ _ (⟨none, none, _⟩ :: _) _; refine go_st (hk := ?_)) | (show GD _ _ _ _ _ _ _ (⟨none, none, _⟩ :: _) _; refine gd_st (hk := ?_)) | (show GO _ _ _ _ _ (⟨_, some _, _⟩ :: _) _; first | refine go_in (hk := ?_) | refine go_out (hk := ?_) | refine go_void (hk := ?_)) | (show GK _ _ _ _ (blockK _ _ _); refine gk_past rfl ?_) | (show GC _ _ _ _ _ (.cond _ _ _) _; first | refine gc_yes (h1 := ?_) | refine gc_no (h1 := ?_))))
      exact gk_next hk5
  · obtain rfl : k = xs.length := by omega
    (repeat (first | refine gst (hk := ?_) | (with_reducible first | (refine gc_drw (h := ?_); intro _) | (refine gc_drw2 (h := ?_); intro _)) | (show GO _ _ _ _ _ (⟨some _, none, _⟩ :: _) _; first | refine go_op (hk := ?_) | (refine go_nw (hk := ?_); intro u; try simp only [llc, lln, lna, lza]) | (refine go_np (hk := ?_); intro id)) | (show GD _ _ _ _ _ _ _ (⟨some _, none, _⟩ :: _) _; first | refine gd_op (hk := ?_) | (refine gd_nw (hk := ?_); intro u; try simp only [llc, lln, lna, lza])) | (show GD2 _ _ _ _ _ _ _ _ _ _ _ _ _ _; first | refine gd2_nil rfl ?_ | refine gd2_op (hk := ?_) | (refine gd2_nw (hk := ?_); intro u; try simp only [llc, lln, lna, lza]) | refine gd2_l (hk := ?_) | refine gd2_lp (hk := ?_) | (refine gd2_newp (hk := ?_); intro id) | refine gd2_st (hk := ?_) | (refine gd2_bsl rfl rfl ?_; intro u; try simp only [llc, lln, lna, lza]) | (refine gd2_a (hk := ?_); intro u; try simp only [llc, lln, lna, lza])) | (show GO _ _ _ _ _ (⟨none, none, _⟩ :: _) _; refine go_st (hk := ?_)) | (show GD _ _ _ _ _ _ _ (⟨none, none, _⟩ :: _) _; refine gd_st (hk := ?_)) | (show GO _ _ _ _ _ (⟨_, some _, _⟩ :: _) _; first | refine go_in (hk := ?_) | refine go_out (hk := ?_) | refine go_void (hk := ?_)) | (show GK _ _ _ _ (blockK _ _ _); refine gk_past rfl ?_) | (show GC _ _ _ _ _ (.cond _ _ _) _; first | refine gc_yes (h1 := ?_) | refine gc_no (h1 := ?_))))
    exact gk_ret rfl fun H' hH => ⟨u1, zs, (poS (rS xs ws) (rW ws) xs.length).length, rfl, hzl, hzs, (hH.give (by exact Sel.auto)).1, hH.leE⟩

noncomputable def blO (xs ws : List Int) : List Int := if Loads xs ws then blL xs ws else []

theorem specBlocksOf_ok {H : Heap} {a b : AV} {xs ws : List Int} (ha : Ints H a xs) (hb : Ints H b ws) (hl : xs.length ≤ 1000000000) (hl' : ws.length ≤ 1000000000) :
    ACalls Try.prog fn_spec_BlocksOf [a, b] H fun r H' => OwnI H H' r (blO xs ws) ∧ Le H H' := by
  refine code_spec_BlocksOf.go [.roI a xs.length xs, .roI b ws.length ws] ⟨⟨rfl, ha⟩, ⟨rfl, hb⟩, trivial⟩ (by simp) ?_
  unfold mc_spec_BlocksOf
  (repeat (first | refine gst (hk := ?_) | (show GO _ _ _ _ _ (⟨some _, none, .call _ _⟩ :: _) _; first | (refine go_callp rfl code_spec_validLoads.callable (fun H hH => specValidLoads_ok (hH.ints (by exact Has.auto)) (hH.ints (by exact Has.auto)) (by omega) (by omega)) ?_) | (refine go_calln rfl code_spec_pool.callable (fun H hH => specPool_ok (hH.ints (by exact Has.auto)) (hH.ints (by exact Has.auto)) (by assumption)) ?_; intro u)) | (show GO _ _ _ _ _ (⟨some _, none, _⟩ :: _) _; first | refine go_op (hk := ?_) | (refine go_nw (hk := ?_); intro u; try simp only [llc, lln, lna, lza]) | (refine go_np (hk := ?_); intro id)) | (show GO _ _ _ _ _ (⟨none, none, _⟩ :: _) _; refine go_st (hk := ?_)) | (show GO _ _ _ _ _ (⟨_, some _, _⟩ :: _) _; first | refine go_in (hk := ?_) | refine go_out (hk := ?_) | refine go_void (hk := ?_)) | (show GK _ _ _ _ (blockK _ _ _); refine gk_past rfl ?_) | (show GC _ _ _ _ _ (.cond _ _ _) _; first | refine gc_yes (h1 := ?_) | refine gc_no (h1 := ?_))))
  refine gc_cond rfl (fun h => ?_) (fun h => ?_)
  · (repeat (first | refine gst (hk := ?_) | (show GO _ _ _ _ _ (⟨some _, none, .call _ _⟩ :: _) _; first | (refine go_callp rfl code_spec_validLoads.callable (fun H hH => specValidLoads_ok (hH.ints (by exact Has.auto)) (hH.ints (by exact Has.auto)) (by omega) (by omega)) ?_) | (refine go_calln rfl code_spec_pool.callable (fun H hH => specPool_ok (hH.ints (by exact Has.auto)) (hH.ints (by exact Has.auto)) (by assumption)) ?_; intro u)) | (show GO _ _ _ _ _ (⟨some _, none, _⟩ :: _) _; first | refine go_op (hk := ?_) | (refine go_nw (hk := ?_); intro u; try simp only [llc, lln, lna, lza]) | (refine go_np (hk := ?_); intro id)) | (show GO _ _ _ _ _ (⟨none, none, _⟩ :: _) _; refine go_st (hk := ?_)) | (show GO _ _ _ _ _ (⟨_, some _, _⟩ :: _) _; first | refine go_in (hk := ?_) | refine go_out (hk := ?_) | refine go_void (hk := ?_)) | (show GK _ _ _ _ (blockK _ _ _); refine gk_past rfl ?_) | (show GC _ _ _ _ _ (.cond _ _ _) _; first | refine gc_yes (h1 := ?_) | refine gc_no (h1 := ?_))))
    refine gk_ret rfl fun H' hH => ⟨?_, hH.leE⟩
    unfold blO; rw [if_neg h]
    exact Own.nil _ _ _
  have hL := Decidable.not_not.1 h
  rw [show blO xs ws = blL xs ws from if_pos hL]
  (repeat (first | refine gst (hk := ?_) | (show GO _ _ _ _ _ (⟨some _, none, .call _ _⟩ :: _) _; first | (refine go_callp rfl code_spec_validLoads.callable (fun H hH => specValidLoads_ok (hH.ints (by exact Has.auto)) (hH.ints (by exact Has.auto)) (by omega) (by omega)) ?_) | (refine go_calln rfl code_spec_pool.callable (fun H hH => specPool_ok (hH.ints (by exact Has.auto)) (hH.ints (by exact Has.auto)) (by assumption)) ?_; intro u)) | (show GO _ _ _ _ _ (⟨some _, none, _⟩ :: _) _; first | refine go_op (hk := ?_) | (refine go_nw (hk := ?_); intro u; try simp only [llc, lln, lna, lza]) | (refine go_np (hk := ?_); intro id)) | (show GO _ _ _ _ _ (⟨none, none, _⟩ :: _) _; refine go_st (hk := ?_)) | (show GO _ _ _ _ _ (⟨_, some _, _⟩ :: _) _; first | refine go_in (hk := ?_) | refine go_out (hk := ?_) | refine go_void (hk := ?_)) | (show GK _ _ _ _ (blockK _ _ _); refine gk_past rfl ?_) | (show GC _ _ _ _ _ (.cond _ _ _) _; first | refine gc_yes (h1 := ?_) | refine gc_no (h1 := ?_))))
  exact gk_ret rfl fun H' hH => hH.give .head

theorem Loads.take {xs ws : List Int} (h : Loads xs ws) {k : Nat} (h1 : 1 ≤ k) (h2 : k ≤ xs.length) : Loads (xs.take k) (ws.take k) := by
  obtain ⟨g1, g2, g3, g4, g5⟩ := h
  exact ⟨fun w hw => g1 w (List.mem_of_mem_take hw), fun x hx => g2 x (List.mem_of_mem_take hx), by rw [List.length_take, List.length_take]; omega, by rw [List.length_take]; omega, by rw [List.length_take]; omega⟩

theorem hc_goS {P : Program} {A : Heap} {X : List Nat} {S : Sig} {f : FuncId} {mc : MC} {rs : List RV} {N : Nat} (h : HasCode P f mc rs N) {args : List AV} {H : Heap} {R : AV → Heap → Prop} (hS : SOk A X S H.size H) (hn : args.length ≤ N) (hw : GC P A X (argsE 0 args) S mc (retK rs R)) : ACalls P f args H R := by
  refine h.calls hn (hw.g _ ⟨fun i v hv => ?_, hS⟩)
  have := (argsE_init args 0 i v hv).2
  simpa using this

theorem has_k {k : Kd} (h : k = .rw ∨ k = .ro) {S : Sig} {v : AV} {es n : Nat} {cs : List AV} : Has (⟨k, v, es, n, cs⟩ :: S) v es n cs := by
  rcases h with rfl | rfl
  · exact .rw
  · exact .ro

theorem has_memk {S : Sig} {c : Ch} (hc : c ∈ S) (h : c.k = .rw ∨ c.k = .ro) : Has S c.v c.es c.n c.cs := by
  induction S with
  | nil => simp at hc
  | cons d S ih =>
    rcases List.mem_cons.1 hc with rfl | hc
    · obtain ⟨k, v, es, n, cs⟩ := c
      exact has_k h
    · exact .tail (ih hc)
/- windows: parts of a slice that has no room behind them -/

def winV : AV → Nat → Nat → AV
  | .slice id off _ _ es, l, h => .slice id (off + l * es) (h - l) (some (h - l)) es
  | v, _, _ => v

theorem winV_bid {v : AV} {l h j : Nat} (hj : (winV v l h).bid = some j) : v.bid = some j := by
  cases v <;> first | exact hj | (simp [winV, AV.bid] at hj; done)

theorem stp_sl3 {A : Heap} {X : List Nat} {E : List (Nat × AV)} {S : Sig} {x lo hi mx : MX} {v : AV} {k n l h : Nat} {cs : List AV} (hx : evE E x = some v) (hl : evE E lo = some (.int .i64 (l : Int))) (hh : evE E hi = some (.int .i64 (h : Int))) (hm : evE E mx = some (.int .i64 (h : Int))) (hs : Has S v k n cs) (hb : l ≤ h ∧ h ≤ n) :
    Stp A X E S (.sl x (some lo) (some hi) (some mx) k) (Is (winV v l h) S) :=
  stp_pure fun τ H m nid hE hS => by
    have hv := hS.valsA hs
    have b1 : ∀ d, bnd n (some (AV.int .i64 (h : Int))) d = some h := by
      intro d; simp only [bnd]; rw [if_pos (by omega)]; simp
    have b2 : ∀ d, bnd h (some (AV.int .i64 (h : Int))) d = some h := by
      intro d; simp only [bnd]; rw [if_pos (by omega)]; simp
    have b3 : ∀ d, bnd h (some (AV.int .i64 (l : Int))) d = some l := by
      intro d; simp only [bnd]; rw [if_pos (by omega)]; simp
    simp only [mstep, ev_of hE hx, Option.map_some, ev_of hE hl, ev_of hE hh, ev_of hE hm, msl, hv.len, b1, b2, b3]
    cases v with
    | slice id off n' cap es =>
      have e2 : es = k := by
        rcases hv.esn with h | h
        · cases h
        · simpa [AV.es] using h
      subst e2
      simp [winV]
    | nilSlice => rfl
    | _ => exact absurd hv.sl (by simp [AV.isSlice])

theorem vals_win {α : Type} {c : α → List AV} {k : Nat} (hc : Cels c k) {H : Heap} {v : AV} {n l h : Nat} {L : List α} (hv : Vals H v k n (cellsK c L)) (hn : n = L.length) (hl : l ≤ h ∧ h ≤ n) : Vals H (winV v l h) k (h - l) (cellsK c ((L.drop l).take (h - l))) := by
  have hcl : (cellsK c ((L.drop l).take (h - l))).length = (h - l) * k := by rw [ck_len hc, List.length_take, List.length_drop, ← hn, Nat.min_eq_left (by omega)]
  cases v with
  | slice id off n' cap es =>
    have e1 : n' = n := hv.len
    have e2 : es = k := by
      rcases hv.esn with h | h
      · cases h
      · simpa [AV.es] using h
    subst e1; subst e2
    refine ⟨rfl, rfl, .inr rfl, hcl, ?_, fun j hj => hv.bid j (winV_bid hj)⟩
    have hr := hv.row
    simp only [winV, Heap.row] at hr ⊢
    by_cases h0 : h - l = 0
    · rw [if_pos h0, h0]; rfl
    · rw [if_neg (by omega)] at hr
      rw [if_neg h0]
      simp only [Heap.read] at hr ⊢
      split at hr
      · rename_i b hb
        split at hr
        · rename_i h1
          simp only [Option.some.injEq] at hr
          have hm : l * es + (h - l) * es = h * es := by rw [← Nat.add_mul]; congr 1; omega
          have hm2 : h * es ≤ n' * es := Nat.mul_le_mul_right es hl.2
          rw [if_pos (by omega), ← ck_take hc, ← ck_drop hc, ← hr, List.drop_take, List.drop_drop, List.take_take, Nat.min_eq_left (by omega)]
        · cases hr
      · cases hr
  | nilSlice =>
    have e1 : 0 = n := hv.len
    subst e1
    have : L = [] := List.eq_nil_of_length_eq_zero hn.symm
    subst this
    obtain rfl : l = 0 := by omega
    obtain rfl : h = 0 := by omega
    exact hv
  | _ => exact absurd hv.sl (by simp [AV.isSlice])

/-- what is behind a window stays: it is copied -/
theorem stp_appW {A : Heap} {X : List Nat} {E : List (Nat × AV)} {S : Sig} {x y : MX} {w : AV} {id off es n m' bytes : Nat} {cs news : List AV} (hx : evE E x = some (.slice id off n (some n) es)) (hy : evE E y = some w) (h1 : Has S (.slice id off n (some n) es) es n cs) (h2 : Has S w es m' news) (hn : 0 < n) (hm0 : 0 < m') (hone : news.all AV.one = true) (he : 0 < es) (hb : (n + m') * bytes ≤ 140737488355328) (hm2 : n + m' ≤ 1000000000000) :
    Stp A X E S (.app x y es bytes) (New fun u => ⟨.rw, u, es, n + m', cs ++ news⟩ :: S) := by
  refine ⟨?_⟩
  intro τ H m nid hE hS hm
  have hx' := hS.valsA h1
  have hy' := hS.valsA h2
  have hml : n + m' ≤ maxLen := by simp only [maxLen]; omega
  have hcm : (cs ++ news).length = (n + m') * es := by rw [List.length_append, hx'.cells, hy'.cells, Nat.add_mul]
  have ham := hS.am
  have hr := hx'.row
  simp only [Heap.row, Heap.read] at hr
  rw [if_neg (by omega)] at hr
  simp only [mstep, ev_of hE hx, ev_of hE hy]
  unfold mapp
  rw [if_pos hy'.sl, hy'.row]
  simp only
  rw [if_pos ⟨by rw [hy'.cells, hy'.len], hone, he⟩, hy'.len, if_neg (by omega), if_pos ⟨hb, hml, trivial⟩]
  split at hr
  · rename_i b hb'
    rw [hb']
    split at hr
    · rename_i hlen
      simp only [Option.some.injEq] at hr
      simp only
      rw [if_pos hlen, if_pos (by omega), hr]
      have hs := Heap.lt_new H nid (some ⟨true, cs ++ news⟩)
      refine ⟨_, _, _, nid + 1, rfl, rfl, ?_, by omega, Nat.le_refl _, Heap.size_le_new _ _ _⟩
      refine hS.add ?_ (by omega) hs ⟨?_, hcm, .inr ⟨nid, rfl, .inl (by omega), by simp [Heap.get_new]⟩⟩ ?_
      · intro id hid; rw [Heap.get_new, if_neg (by omega)]
      · intro k hk; simp only [AV.bid, Option.some.injEq] at hk; omega
      · intro k hk; simp only [AV.bid, Option.some.injEq] at hk; omega
    · cases hr
  · cases hr

/-- the first of two cells -/
theorem stp_st20 {A : Heap} {X : List Nat} {E : List (Nat × AV)} {S S0 : Sig} {p x : MX} {id es n : Nat} {w c1 c2 : AV} (hp : evE E p = some (.ptr id 0)) (hx : evE E x = some w) (hw : w.cells = [w]) (ho : w.one = true) (hs : Sel S ⟨.cell, .ptr id 0, es, n, [c1, c2]⟩ S0) : Stp A X E S (.st p x 1) (Is .any (⟨.cell, .ptr id 0, es, n, [w, c2]⟩ :: S0)) := by
  have := stp_stc (A := A) (X := X) (E := E) (j := 1) hp hx hs (by rw [hw]; rfl) (by rw [hw]; simp [ho]) (by simp)
  rw [hw] at this
  exact this

/-- what one may read is kept beside what is there -/
theorem go_read {P : Program} {A : Heap} {X : List Nat} {E : List (Nat × AV)} {S : Sig} {l : List MI} {K : St → Prop} {v w : AV} {es n m : Nat} {cs ds : List AV} (hh : ∀ H, Vals H v es n cs → Vals H w es m ds) (hs : (⟨.ro, v, es, n, cs⟩ : Ch) ∈ S) (hb : ∀ j, w.bid = some j → v.bid = some j) (h : GO P A X E (⟨.ro, w, es, m, ds⟩ :: S) l K) : GO P A X E S l K := by
  refine ⟨fun s hf => h.g s ⟨hf.env, ?_⟩⟩
  have hc := hf.ok.ch _ hs
  have hm : Has S v es n cs := has_memk (c := ⟨.ro, v, es, n, cs⟩) hs (.inr rfl)
  have hw := hh _ (hf.ok.valsA hm)
  refine ⟨hf.ok.le, hf.ok.am, hf.ok.mh, fun d hd => ?_, ?_⟩
  · rcases List.mem_cons.1 hd with rfl | hd
    · exact chRo hw
    · exact hf.ok.ch d hd
  · rw [List.pairwise_cons]
    refine ⟨fun d hd hwr k h1 h2 => ?_, hf.ok.ap⟩
    rcases hwr with hwr | hwr
    · cases hwr
    · -- d is written: it is apart from what is read
      by_cases e : d = ⟨.ro, v, es, n, cs⟩
      · subst e; cases hwr
      · have hap : Apart d ⟨.ro, v, es, n, cs⟩ := by
          obtain ⟨S0, h3, h4⟩ := sel_of_mem hd
          have hp := h3.ap hf.ok.ap
          rw [List.pairwise_cons] at hp
          rcases List.mem_cons.1 (h4.mem_iff.2 hs) with g | g
          · exact absurd g.symm e
          · exact hp.1 _ g
        exact hap (.inl hwr) k h2 (hb k h1)

def Steps (xs : List Int) : Prop := Bd 30 xs ∧ 1 ≤ xs.length ∧ xs.length ≤ 8

noncomputable instance (xs : List Int) : Decidable (Steps xs) := Classical.propDecidable _

theorem Steps.x {xs : List Int} (h : Steps xs) (j : Nat) : -30 ≤ nth xs j ∧ nth xs j ≤ 30 := h.1.nth (by omega) j

theorem validHeights_ok {H : Heap} {a : AV} {xs : List Int} (ha : Ints H a xs) (hl : xs.length ≤ 1000000000) :
    ACalls Try.prog fn_impl_validHeights [a] H fun r H' => r = .bool (decide (Steps xs)) ∧ H' = H := by
  refine ACalls.val ?_ rfl
  refine code_impl_validHeights.go [.roI a xs.length xs] ⟨⟨rfl, ha⟩, trivial⟩ (by simp) ?_
  unfold mc_impl_validHeights
  have no : (Steps xs → False) → decide (Steps xs) = false := fun h => decide_eq_false h
  (repeat (first | refine gst (hk := ?_) | (show GO _ _ _ _ _ (⟨some _, none, _⟩ :: _) _; first | refine go_op (hk := ?_) | (refine go_nw (hk := ?_); intro u; try simp only [llc, lln, lna, lza]) | (refine go_np (hk := ?_); intro id)) | (show GO _ _ _ _ _ (⟨none, none, _⟩ :: _) _; refine go_st (hk := ?_)) | (show GO _ _ _ _ _ (⟨_, some _, _⟩ :: _) _; first | refine go_in (hk := ?_) | refine go_out (hk := ?_) | refine go_void (hk := ?_)) | (show GK _ _ _ _ (blockK _ _ _); refine gk_past rfl ?_) | (show GC _ _ _ _ _ (.cond _ _ _) _; first | refine gc_yes (h1 := ?_) | refine gc_no (h1 := ?_))))
  refine go_split 8 rfl (fun h1 => ?_) (fun h1 => ?_)
  · (repeat (first | refine gst (hk := ?_) | (show GO _ _ _ _ _ (⟨some _, none, _⟩ :: _) _; first | refine go_op (hk := ?_) | (refine go_nw (hk := ?_); intro u; try simp only [llc, lln, lna, lza]) | (refine go_np (hk := ?_); intro id)) | (show GO _ _ _ _ _ (⟨none, none, _⟩ :: _) _; refine go_st (hk := ?_)) | (show GO _ _ _ _ _ (⟨_, some _, _⟩ :: _) _; first | refine go_in (hk := ?_) | refine go_out (hk := ?_) | refine go_void (hk := ?_)) | (show GK _ _ _ _ (blockK _ _ _); refine gk_past rfl ?_) | (show GC _ _ _ _ _ (.cond _ _ _) _; first | refine gc_yes (h1 := ?_) | refine gc_no (h1 := ?_))))
    exact gk_ret rfl fun H' hH => ⟨by rw [no fun h => by have := h.2.1; omega]; rfl, hH.leE⟩
  (repeat (first | refine gst (hk := ?_) | (show GO _ _ _ _ _ (⟨some _, none, _⟩ :: _) _; first | refine go_op (hk := ?_) | (refine go_nw (hk := ?_); intro u; try simp only [llc, lln, lna, lza]) | (refine go_np (hk := ?_); intro id)) | (show GO _ _ _ _ _ (⟨none, none, _⟩ :: _) _; refine go_st (hk := ?_)) | (show GO _ _ _ _ _ (⟨_, some _, _⟩ :: _) _; first | refine go_in (hk := ?_) | refine go_out (hk := ?_) | refine go_void (hk := ?_)) | (show GK _ _ _ _ (blockK _ _ _); refine gk_past rfl ?_) | (show GC _ _ _ _ _ (.cond _ _ _) _; first | refine gc_yes (h1 := ?_) | refine gc_no (h1 := ?_))))
  refine gc_cond rfl (fun h2 => ?_) (fun h2 => ?_)
  · (repeat (first | refine gst (hk := ?_) | (show GO _ _ _ _ _ (⟨some _, none, _⟩ :: _) _; first | refine go_op (hk := ?_) | (refine go_nw (hk := ?_); intro u; try simp only [llc, lln, lna, lza]) | (refine go_np (hk := ?_); intro id)) | (show GO _ _ _ _ _ (⟨none, none, _⟩ :: _) _; refine go_st (hk := ?_)) | (show GO _ _ _ _ _ (⟨_, some _, _⟩ :: _) _; first | refine go_in (hk := ?_) | refine go_out (hk := ?_) | refine go_void (hk := ?_)) | (show GK _ _ _ _ (blockK _ _ _); refine gk_past rfl ?_) | (show GC _ _ _ _ _ (.cond _ _ _) _; first | refine gc_yes (h1 := ?_) | refine gc_no (h1 := ?_))))
    exact gk_ret rfl fun H' hH => ⟨by rw [no fun h => by have := h.2.2; omega]; rfl, hH.leE⟩
  (repeat (first | refine gst (hk := ?_) | (show GO _ _ _ _ _ (⟨some _, none, _⟩ :: _) _; first | refine go_op (hk := ?_) | (refine go_nw (hk := ?_); intro u; try simp only [llc, lln, lna, lza]) | (refine go_np (hk := ?_); intro id)) | (show GO _ _ _ _ _ (⟨none, none, _⟩ :: _) _; refine go_st (hk := ?_)) | (show GO _ _ _ _ _ (⟨_, some _, _⟩ :: _) _; first | refine go_in (hk := ?_) | refine go_out (hk := ?_) | refine go_void (hk := ?_)) | (show GK _ _ _ _ (blockK _ _ _); refine gk_past rfl ?_) | (show GC _ _ _ _ _ (.cond _ _ _) _; first | refine gc_yes (h1 := ?_) | refine gc_no (h1 := ?_))))
  refine gc_loop (γ := Nat) (fun i => [(13, a), (14, .int .i64 (xs.length : Int)), (15, .int .i64 (i : Int))]) (fun _ => [.roI a xs.length xs]) (fun i => i ≤ xs.length ∧ ∀ j, j < i → -30 ≤ nth xs j ∧ nth xs j ≤ 30) (fun i => xs.length - i) 0 ⟨Nat.zero_le _, fun k hk => by omega⟩ (hb := ?_)
  rintro i ⟨hi, hp⟩ I ν m hk
  (repeat (first | refine gst (hk := ?_) | (show GO _ _ _ _ _ (⟨some _, none, _⟩ :: _) _; first | refine go_op (hk := ?_) | (refine go_nw (hk := ?_); intro u; try simp only [llc, lln, lna, lza]) | (refine go_np (hk := ?_); intro id)) | (show GO _ _ _ _ _ (⟨none, none, _⟩ :: _) _; refine go_st (hk := ?_)) | (show GO _ _ _ _ _ (⟨_, some _, _⟩ :: _) _; first | refine go_in (hk := ?_) | refine go_out (hk := ?_) | refine go_void (hk := ?_)) | (show GK _ _ _ _ (blockK _ _ _); refine gk_past rfl ?_) | (show GC _ _ _ _ _ (.cond _ _ _) _; first | refine gc_yes (h1 := ?_) | refine gc_no (h1 := ?_))))
  refine gc_cond rfl (fun h => ?_) (fun h => ?_)
  · (repeat (first | refine gst (hk := ?_) | (show GO _ _ _ _ _ (⟨some _, none, _⟩ :: _) _; first | refine go_op (hk := ?_) | (refine go_nw (hk := ?_); intro u; try simp only [llc, lln, lna, lza]) | (refine go_np (hk := ?_); intro id)) | (show GO _ _ _ _ _ (⟨none, none, _⟩ :: _) _; refine go_st (hk := ?_)) | (show GO _ _ _ _ _ (⟨_, some _, _⟩ :: _) _; first | refine go_in (hk := ?_) | refine go_out (hk := ?_) | refine go_void (hk := ?_)) | (show GK _ _ _ _ (blockK _ _ _); refine gk_past rfl ?_) | (show GC _ _ _ _ _ (.cond _ _ _) _; first | refine gc_yes (h1 := ?_) | refine gc_no (h1 := ?_))))
    refine go_split 21 rfl (fun h3 => ?_) (fun h3 => ?_)
    · (repeat (first | refine gst (hk := ?_) | (show GO _ _ _ _ _ (⟨some _, none, _⟩ :: _) _; first | refine go_op (hk := ?_) | (refine go_nw (hk := ?_); intro u; try simp only [llc, lln, lna, lza]) | (refine go_np (hk := ?_); intro id)) | (show GO _ _ _ _ _ (⟨none, none, _⟩ :: _) _; refine go_st (hk := ?_)) | (show GO _ _ _ _ _ (⟨_, some _, _⟩ :: _) _; first | refine go_in (hk := ?_) | refine go_out (hk := ?_) | refine go_void (hk := ?_)) | (show GK _ _ _ _ (blockK _ _ _); refine gk_past rfl ?_) | (show GC _ _ _ _ _ (.cond _ _ _) _; first | refine gc_yes (h1 := ?_) | refine gc_no (h1 := ?_))))
      exact gk_ret rfl fun H' hH => ⟨by rw [no fun hL => by have := hL.x i; omega]; rfl, hH.leE⟩
    (repeat (first | refine gst (hk := ?_) | (show GO _ _ _ _ _ (⟨some _, none, _⟩ :: _) _; first | refine go_op (hk := ?_) | (refine go_nw (hk := ?_); intro u; try simp only [llc, lln, lna, lza]) | (refine go_np (hk := ?_); intro id)) | (show GO _ _ _ _ _ (⟨none, none, _⟩ :: _) _; refine go_st (hk := ?_)) | (show GO _ _ _ _ _ (⟨_, some _, _⟩ :: _) _; first | refine go_in (hk := ?_) | refine go_out (hk := ?_) | refine go_void (hk := ?_)) | (show GK _ _ _ _ (blockK _ _ _); refine gk_past rfl ?_) | (show GC _ _ _ _ _ (.cond _ _ _) _; first | refine gc_yes (h1 := ?_) | refine gc_no (h1 := ?_))))
    refine gc_cond rfl (fun h4 => ?_) (fun h4 => ?_)
    · (repeat (first | refine gst (hk := ?_) | (show GO _ _ _ _ _ (⟨some _, none, _⟩ :: _) _; first | refine go_op (hk := ?_) | (refine go_nw (hk := ?_); intro u; try simp only [llc, lln, lna, lza]) | (refine go_np (hk := ?_); intro id)) | (show GO _ _ _ _ _ (⟨none, none, _⟩ :: _) _; refine go_st (hk := ?_)) | (show GO _ _ _ _ _ (⟨_, some _, _⟩ :: _) _; first | refine go_in (hk := ?_) | refine go_out (hk := ?_) | refine go_void (hk := ?_)) | (show GK _ _ _ _ (blockK _ _ _); refine gk_past rfl ?_) | (show GC _ _ _ _ _ (.cond _ _ _) _; first | refine gc_yes (h1 := ?_) | refine gc_no (h1 := ?_))))
      exact gk_ret rfl fun H' hH => ⟨by rw [no fun hL => by have := hL.x i; omega]; rfl, hH.leE⟩
    · (repeat (first | refine gst (hk := ?_) | (show GO _ _ _ _ _ (⟨some _, none, _⟩ :: _) _; first | refine go_op (hk := ?_) | (refine go_nw (hk := ?_); intro u; try simp only [llc, lln, lna, lza]) | (refine go_np (hk := ?_); intro id)) | (show GO _ _ _ _ _ (⟨none, none, _⟩ :: _) _; refine go_st (hk := ?_)) | (show GO _ _ _ _ _ (⟨_, some _, _⟩ :: _) _; first | refine go_in (hk := ?_) | refine go_out (hk := ?_) | refine go_void (hk := ?_)) | (show GK _ _ _ _ (blockK _ _ _); refine gk_past rfl ?_) | (show GC _ _ _ _ _ (.cond _ _ _) _; first | refine gc_yes (h1 := ?_) | refine gc_no (h1 := ?_))))
      refine gk_next (hk (i + 1) ⟨by omega, fun j hj => ?_⟩ (by omega))
      rcases Nat.lt_or_ge j i with h5 | h5
      · exact hp j h5
      · rw [show j = i by omega]; omega
  · obtain rfl : i = xs.length := by omega
    have h6 : Bd 30 xs := fun x hx => by
      obtain ⟨m, hm, rfl⟩ := nth_ex hx
      exact hp m hm
    (repeat (first | refine gst (hk := ?_) | (show GO _ _ _ _ _ (⟨some _, none, _⟩ :: _) _; first | refine go_op (hk := ?_) | (refine go_nw (hk := ?_); intro u; try simp only [llc, lln, lna, lza]) | (refine go_np (hk := ?_); intro id)) | (show GO _ _ _ _ _ (⟨none, none, _⟩ :: _) _; refine go_st (hk := ?_)) | (show GO _ _ _ _ _ (⟨_, some _, _⟩ :: _) _; first | refine go_in (hk := ?_) | refine go_out (hk := ?_) | refine go_void (hk := ?_)) | (show GK _ _ _ _ (blockK _ _ _); refine gk_past rfl ?_) | (show GC _ _ _ _ _ (.cond _ _ _) _; first | refine gc_yes (h1 := ?_) | refine gc_no (h1 := ?_))))
    exact gk_ret rfl fun H' hH => ⟨by
      have : Steps xs := ⟨h6, by omega, by omega⟩
      simp [tupleOf, this], hH.leE⟩

theorem implValidLoads_ok {H : Heap} {a b : AV} {xs ws : List Int} (ha : Ints H a xs) (hb : Ints H b ws) (hl : xs.length ≤ 1000000000) (hl' : ws.length ≤ 1000000000) :
    ACalls Try.prog fn_impl_ValidLoads [a, b] H fun r H' => r = .bool (decide (Loads xs ws)) ∧ H' = H := by
  refine ACalls.val ?_ rfl
  refine code_impl_ValidLoads.go [.roI a xs.length xs, .roI b ws.length ws] ⟨⟨rfl, ha⟩, ⟨rfl, hb⟩, trivial⟩ (by simp) ?_
  unfold mc_impl_ValidLoads
  have no : ∀ {p : Prop}, (Loads xs ws → p) → ¬ p → decide (Loads xs ws) = false := fun h1 h2 => decide_eq_false fun h3 => h2 (h1 h3)
  (repeat (first | refine gst (hk := ?_) | (show GO _ _ _ _ _ (⟨some _, none, _⟩ :: _) _; first | refine go_op (hk := ?_) | (refine go_nw (hk := ?_); intro u; try simp only [llc, lln, lna, lza]) | (refine go_np (hk := ?_); intro id)) | (show GO _ _ _ _ _ (⟨none, none, _⟩ :: _) _; refine go_st (hk := ?_)) | (show GO _ _ _ _ _ (⟨_, some _, _⟩ :: _) _; first | refine go_in (hk := ?_) | refine go_out (hk := ?_) | refine go_void (hk := ?_)) | (show GK _ _ _ _ (blockK _ _ _); refine gk_past rfl ?_) | (show GC _ _ _ _ _ (.cond _ _ _) _; first | refine gc_yes (h1 := ?_) | refine gc_no (h1 := ?_))))
  refine go_callp rfl code_impl_validHeights.callable (fun H hH => validHeights_ok (hH.ints (by exact Has.auto)) hl) ?_
  (repeat (first | refine gst (hk := ?_) | (show GO _ _ _ _ _ (⟨some _, none, _⟩ :: _) _; first | refine go_op (hk := ?_) | (refine go_nw (hk := ?_); intro u; try simp only [llc, lln, lna, lza]) | (refine go_np (hk := ?_); intro id)) | (show GO _ _ _ _ _ (⟨none, none, _⟩ :: _) _; refine go_st (hk := ?_)) | (show GO _ _ _ _ _ (⟨_, some _, _⟩ :: _) _; first | refine go_in (hk := ?_) | refine go_out (hk := ?_) | refine go_void (hk := ?_)) | (show GK _ _ _ _ (blockK _ _ _); refine gk_past rfl ?_) | (show GC _ _ _ _ _ (.cond _ _ _) _; first | refine gc_yes (h1 := ?_) | refine gc_no (h1 := ?_))))
  refine go_split 10 rfl (fun h1 => ?_) (fun h1 => ?_)
  · (repeat (first | refine gst (hk := ?_) | (show GO _ _ _ _ _ (⟨some _, none, _⟩ :: _) _; first | refine go_op (hk := ?_) | (refine go_nw (hk := ?_); intro u; try simp only [llc, lln, lna, lza]) | (refine go_np (hk := ?_); intro id)) | (show GO _ _ _ _ _ (⟨none, none, _⟩ :: _) _; refine go_st (hk := ?_)) | (show GO _ _ _ _ _ (⟨_, some _, _⟩ :: _) _; first | refine go_in (hk := ?_) | refine go_out (hk := ?_) | refine go_void (hk := ?_)) | (show GK _ _ _ _ (blockK _ _ _); refine gk_past rfl ?_) | (show GC _ _ _ _ _ (.cond _ _ _) _; first | refine gc_yes (h1 := ?_) | refine gc_no (h1 := ?_))))
    exact gk_ret rfl fun H' hH => ⟨by rw [no (p := Steps xs) (fun h => ⟨h.2.1, h.2.2.2.1, h.2.2.2.2⟩) h1]; rfl, hH.leE⟩
  have hS := Decidable.not_not.1 h1
  (repeat (first | refine gst (hk := ?_) | (show GO _ _ _ _ _ (⟨some _, none, _⟩ :: _) _; first | refine go_op (hk := ?_) | (refine go_nw (hk := ?_); intro u; try simp only [llc, lln, lna, lza]) | (refine go_np (hk := ?_); intro id)) | (show GO _ _ _ _ _ (⟨none, none, _⟩ :: _) _; refine go_st (hk := ?_)) | (show GO _ _ _ _ _ (⟨_, some _, _⟩ :: _) _; first | refine go_in (hk := ?_) | refine go_out (hk := ?_) | refine go_void (hk := ?_)) | (show GK _ _ _ _ (blockK _ _ _); refine gk_past rfl ?_) | (show GC _ _ _ _ _ (.cond _ _ _) _; first | refine gc_yes (h1 := ?_) | refine gc_no (h1 := ?_))))
  refine gc_cond rfl (fun h3 => ?_) (fun h3 => ?_)
  · (repeat (first | refine gst (hk := ?_) | (show GO _ _ _ _ _ (⟨some _, none, _⟩ :: _) _; first | refine go_op (hk := ?_) | (refine go_nw (hk := ?_); intro u; try simp only [llc, lln, lna, lza]) | (refine go_np (hk := ?_); intro id)) | (show GO _ _ _ _ _ (⟨none, none, _⟩ :: _) _; refine go_st (hk := ?_)) | (show GO _ _ _ _ _ (⟨_, some _, _⟩ :: _) _; first | refine go_in (hk := ?_) | refine go_out (hk := ?_) | refine go_void (hk := ?_)) | (show GK _ _ _ _ (blockK _ _ _); refine gk_past rfl ?_) | (show GC _ _ _ _ _ (.cond _ _ _) _; first | refine gc_yes (h1 := ?_) | refine gc_no (h1 := ?_))))
    exact gk_ret rfl fun H' hH => ⟨by rw [no (fun h => h.2.2.1) (by omega)]; rfl, hH.leE⟩
  (repeat (first | refine gst (hk := ?_) | (show GO _ _ _ _ _ (⟨some _, none, _⟩ :: _) _; first | refine go_op (hk := ?_) | (refine go_nw (hk := ?_); intro u; try simp only [llc, lln, lna, lza]) | (refine go_np (hk := ?_); intro id)) | (show GO _ _ _ _ _ (⟨none, none, _⟩ :: _) _; refine go_st (hk := ?_)) | (show GO _ _ _ _ _ (⟨_, some _, _⟩ :: _) _; first | refine go_in (hk := ?_) | refine go_out (hk := ?_) | refine go_void (hk := ?_)) | (show GK _ _ _ _ (blockK _ _ _); refine gk_past rfl ?_) | (show GC _ _ _ _ _ (.cond _ _ _) _; first | refine gc_yes (h1 := ?_) | refine gc_no (h1 := ?_))))
  refine gc_loop (γ := Nat) (fun i => [(17, b), (18, .int .i64 (ws.length : Int)), (19, .int .i64 (i : Int))]) (fun _ => [.roI b ws.length ws]) (fun i => i ≤ ws.length ∧ ∀ j, j < i → 1 ≤ nth ws j ∧ nth ws j ≤ 5) (fun i => ws.length - i) 0 ⟨Nat.zero_le _, fun k hk => by omega⟩ (hb := ?_)
  rintro i ⟨hi, hp⟩ I ν μ hk
  (repeat (first | refine gst (hk := ?_) | (show GO _ _ _ _ _ (⟨some _, none, _⟩ :: _) _; first | refine go_op (hk := ?_) | (refine go_nw (hk := ?_); intro u; try simp only [llc, lln, lna, lza]) | (refine go_np (hk := ?_); intro id)) | (show GO _ _ _ _ _ (⟨none, none, _⟩ :: _) _; refine go_st (hk := ?_)) | (show GO _ _ _ _ _ (⟨_, some _, _⟩ :: _) _; first | refine go_in (hk := ?_) | refine go_out (hk := ?_) | refine go_void (hk := ?_)) | (show GK _ _ _ _ (blockK _ _ _); refine gk_past rfl ?_) | (show GC _ _ _ _ _ (.cond _ _ _) _; first | refine gc_yes (h1 := ?_) | refine gc_no (h1 := ?_))))
  refine gc_cond rfl (fun h => ?_) (fun h => ?_)
  · (repeat (first | refine gst (hk := ?_) | (show GO _ _ _ _ _ (⟨some _, none, _⟩ :: _) _; first | refine go_op (hk := ?_) | (refine go_nw (hk := ?_); intro u; try simp only [llc, lln, lna, lza]) | (refine go_np (hk := ?_); intro id)) | (show GO _ _ _ _ _ (⟨none, none, _⟩ :: _) _; refine go_st (hk := ?_)) | (show GO _ _ _ _ _ (⟨_, some _, _⟩ :: _) _; first | refine go_in (hk := ?_) | refine go_out (hk := ?_) | refine go_void (hk := ?_)) | (show GK _ _ _ _ (blockK _ _ _); refine gk_past rfl ?_) | (show GC _ _ _ _ _ (.cond _ _ _) _; first | refine gc_yes (h1 := ?_) | refine gc_no (h1 := ?_))))
    refine go_split 25 rfl (fun h4 => ?_) (fun h4 => ?_)
    · (repeat (first | refine gst (hk := ?_) | (show GO _ _ _ _ _ (⟨some _, none, _⟩ :: _) _; first | refine go_op (hk := ?_) | (refine go_nw (hk := ?_); intro u; try simp only [llc, lln, lna, lza]) | (refine go_np (hk := ?_); intro id)) | (show GO _ _ _ _ _ (⟨none, none, _⟩ :: _) _; refine go_st (hk := ?_)) | (show GO _ _ _ _ _ (⟨_, some _, _⟩ :: _) _; first | refine go_in (hk := ?_) | refine go_out (hk := ?_) | refine go_void (hk := ?_)) | (show GK _ _ _ _ (blockK _ _ _); refine gk_past rfl ?_) | (show GC _ _ _ _ _ (.cond _ _ _) _; first | refine gc_yes (h1 := ?_) | refine gc_no (h1 := ?_))))
      exact gk_ret rfl fun H' hH => ⟨by rw [no (fun h => (h.w (i := i) (by omega)).1) (by omega)]; rfl, hH.leE⟩
    (repeat (first | refine gst (hk := ?_) | (show GO _ _ _ _ _ (⟨some _, none, _⟩ :: _) _; first | refine go_op (hk := ?_) | (refine go_nw (hk := ?_); intro u; try simp only [llc, lln, lna, lza]) | (refine go_np (hk := ?_); intro id)) | (show GO _ _ _ _ _ (⟨none, none, _⟩ :: _) _; refine go_st (hk := ?_)) | (show GO _ _ _ _ _ (⟨_, some _, _⟩ :: _) _; first | refine go_in (hk := ?_) | refine go_out (hk := ?_) | refine go_void (hk := ?_)) | (show GK _ _ _ _ (blockK _ _ _); refine gk_past rfl ?_) | (show GC _ _ _ _ _ (.cond _ _ _) _; first | refine gc_yes (h1 := ?_) | refine gc_no (h1 := ?_))))
    refine gc_cond rfl (fun h7 => ?_) (fun h7 => ?_)
    · (repeat (first | refine gst (hk := ?_) | (show GO _ _ _ _ _ (⟨some _, none, _⟩ :: _) _; first | refine go_op (hk := ?_) | (refine go_nw (hk := ?_); intro u; try simp only [llc, lln, lna, lza]) | (refine go_np (hk := ?_); intro id)) | (show GO _ _ _ _ _ (⟨none, none, _⟩ :: _) _; refine go_st (hk := ?_)) | (show GO _ _ _ _ _ (⟨_, some _, _⟩ :: _) _; first | refine go_in (hk := ?_) | refine go_out (hk := ?_) | refine go_void (hk := ?_)) | (show GK _ _ _ _ (blockK _ _ _); refine gk_past rfl ?_) | (show GC _ _ _ _ _ (.cond _ _ _) _; first | refine gc_yes (h1 := ?_) | refine gc_no (h1 := ?_))))
      exact gk_ret rfl fun H' hH => ⟨by rw [no (fun h => (h.w (i := i) (by omega)).2) (by omega)]; rfl, hH.leE⟩
    (repeat (first | refine gst (hk := ?_) | (show GO _ _ _ _ _ (⟨some _, none, _⟩ :: _) _; first | refine go_op (hk := ?_) | (refine go_nw (hk := ?_); intro u; try simp only [llc, lln, lna, lza]) | (refine go_np (hk := ?_); intro id)) | (show GO _ _ _ _ _ (⟨none, none, _⟩ :: _) _; refine go_st (hk := ?_)) | (show GO _ _ _ _ _ (⟨_, some _, _⟩ :: _) _; first | refine go_in (hk := ?_) | refine go_out (hk := ?_) | refine go_void (hk := ?_)) | (show GK _ _ _ _ (blockK _ _ _); refine gk_past rfl ?_) | (show GC _ _ _ _ _ (.cond _ _ _) _; first | refine gc_yes (h1 := ?_) | refine gc_no (h1 := ?_))))
    refine gk_next (hk (i + 1) ⟨by omega, fun j hj => ?_⟩ (by omega))
    rcases Nat.lt_or_ge j i with g | g
    · exact hp j g
    · rw [show j = i by omega]; omega
  · have : i = ws.length := by omega
    subst this
    (repeat (first | refine gst (hk := ?_) | (show GO _ _ _ _ _ (⟨some _, none, _⟩ :: _) _; first | refine go_op (hk := ?_) | (refine go_nw (hk := ?_); intro u; try simp only [llc, lln, lna, lza]) | (refine go_np (hk := ?_); intro id)) | (show GO _ _ _ _ _ (⟨none, none, _⟩ :: _) _; refine go_st (hk := ?_)) | (show GO _ _ _ _ _ (⟨_, some _, _⟩ :: _) _; first | refine go_in (hk := ?_) | refine go_out (hk := ?_) | refine go_void (hk := ?_)) | (show GK _ _ _ _ (blockK _ _ _); refine gk_past rfl ?_) | (show GC _ _ _ _ _ (.cond _ _ _) _; first | refine gc_yes (h1 := ?_) | refine gc_no (h1 := ?_))))
    exact gk_ret rfl fun H' hH => ⟨by
      have : Loads xs ws := ⟨fun w hw => by
        obtain ⟨m, hm, rfl⟩ := nth_ex hw
        exact hp m hm, hS.1, by omega, hS.2.1, hS.2.2⟩
      simp [tupleOf, this], hH.leE⟩

theorem loadsOf_ok {H : Heap} {a b : AV} {xs ws : List Int} (ha : Ints H a xs) (hb : Ints H b ws) (hlen : xs.length = ws.length) (hl : xs.length ≤ 1000000) :
    ACalls Try.prog fn_impl_loadsOf [a, b] H fun r H' => Own H H' r 2 xs.length (pns (ptL xs ws)) ∧ Le H H' := by
  refine code_impl_loadsOf.go [.roI a xs.length xs, .roI b ws.length ws] ⟨⟨rfl, ha⟩, ⟨rfl, hb⟩, trivial⟩ (by simp) ?_
  unfold mc_impl_loadsOf
  (repeat (first | refine gst (hk := ?_) | (show GO _ _ _ _ _ (⟨some _, none, _⟩ :: _) _; first | refine go_op (hk := ?_) | (refine go_nw (hk := ?_); intro u; try simp only [llc, lln, lna, lza]) | (refine go_np (hk := ?_); intro id)) | (show GO _ _ _ _ _ (⟨none, none, _⟩ :: _) _; refine go_st (hk := ?_)) | (show GO _ _ _ _ _ (⟨_, some _, _⟩ :: _) _; first | refine go_in (hk := ?_) | refine go_out (hk := ?_) | refine go_void (hk := ?_)) | (show GK _ _ _ _ (blockK _ _ _); refine gk_past rfl ?_) | (show GC _ _ _ _ _ (.cond _ _ _) _; first | refine gc_yes (h1 := ?_) | refine gc_no (h1 := ?_))))
  refine go_new rfl (stp_mkK cels_pn (0, 0) xs.length rfl rfl rfl rfl (by omega) (by omega)) ?_
  intro u
  (repeat (first | refine gst (hk := ?_) | (show GO _ _ _ _ _ (⟨some _, none, _⟩ :: _) _; first | refine go_op (hk := ?_) | (refine go_nw (hk := ?_); intro u; try simp only [llc, lln, lna, lza]) | (refine go_np (hk := ?_); intro id)) | (show GO _ _ _ _ _ (⟨none, none, _⟩ :: _) _; refine go_st (hk := ?_)) | (show GO _ _ _ _ _ (⟨_, some _, _⟩ :: _) _; first | refine go_in (hk := ?_) | refine go_out (hk := ?_) | refine go_void (hk := ?_)) | (show GK _ _ _ _ (blockK _ _ _); refine gk_past rfl ?_) | (show GC _ _ _ _ _ (.cond _ _ _) _; first | refine gc_yes (h1 := ?_) | refine gc_no (h1 := ?_))))
  rw [tabS_rep]
  rw [tabS_congr (g := fun k => if k < 0 then (nth xs k, nth ws k) else (0, 0)) (fun k _ => by rw [if_neg (by omega)])]
  refine gc_up xs.length (fun i => [(1, b), (5, u), (11, a), (12, .int .i64 (xs.length : Int)), (13, .int .i64 (i : Int))]) (fun i => [rwP u xs.length (tabS xs.length fun k => if k < i then (nth xs k, nth ws k) else (0, 0)), .roI a xs.length xs, .roI b ws.length ws]) (hb := ?_)
  intro i hi I ν μ hk
  (repeat (first | refine gst (hk := ?_) | (show GO _ _ _ _ _ (⟨some _, none, _⟩ :: _) _; first | refine go_op (hk := ?_) | (refine go_nw (hk := ?_); intro u; try simp only [llc, lln, lna, lza]) | (refine go_np (hk := ?_); intro id)) | (show GO _ _ _ _ _ (⟨none, none, _⟩ :: _) _; refine go_st (hk := ?_)) | (show GO _ _ _ _ _ (⟨_, some _, _⟩ :: _) _; first | refine go_in (hk := ?_) | refine go_out (hk := ?_) | refine go_void (hk := ?_)) | (show GK _ _ _ _ (blockK _ _ _); refine gk_past rfl ?_) | (show GC _ _ _ _ _ (.cond _ _ _) _; first | refine gc_yes (h1 := ?_) | refine gc_no (h1 := ?_))))
  refine gc_cond rfl (fun h => ?_) (fun h => ?_)
  · have hk := hk (by omega)
    (repeat (first | refine gst (hk := ?_) | (show GO _ _ _ _ _ (⟨some _, none, _⟩ :: _) _; first | refine go_op (hk := ?_) | (refine go_nw (hk := ?_); intro u; try simp only [llc, lln, lna, lza]) | (refine go_np (hk := ?_); intro id)) | (show GO _ _ _ _ _ (⟨none, none, _⟩ :: _) _; refine go_st (hk := ?_)) | (show GO _ _ _ _ _ (⟨_, some _, _⟩ :: _) _; first | refine go_in (hk := ?_) | refine go_out (hk := ?_) | refine go_void (hk := ?_)) | (show GK _ _ _ _ (blockK _ _ _); refine gk_past rfl ?_) | (show GC _ _ _ _ _ (.cond _ _ _) _; first | refine gc_yes (h1 := ?_) | refine gc_no (h1 := ?_))))
    refine go_is0 rfl (stp_stK cels_pn (i := i) (a := (nth xs i, nth ws i)) rfl rfl (by exact Sel.auto) (tabS_len _ _).symm (by omega)) ?_
    (repeat (first | refine gst (hk := ?_) | (show GO _ _ _ _ _ (⟨some _, none, _⟩ :: _) _; first | refine go_op (hk := ?_) | (refine go_nw (hk := ?_); intro u; try simp only [llc, lln, lna, lza]) | (refine go_np (hk := ?_); intro id)) | (show GO _ _ _ _ _ (⟨none, none, _⟩ :: _) _; refine go_st (hk := ?_)) | (show GO _ _ _ _ _ (⟨_, some _, _⟩ :: _) _; first | refine go_in (hk := ?_) | refine go_out (hk := ?_) | refine go_void (hk := ?_)) | (show GK _ _ _ _ (blockK _ _ _); refine gk_past rfl ?_) | (show GC _ _ _ _ _ (.cond _ _ _) _; first | refine gc_yes (h1 := ?_) | refine gc_no (h1 := ?_))))
    rw [tabS_set, tabS_congr (g := fun k => if k < i + 1 then (nth xs k, nth ws k) else (0, 0)) (fun k hk => by
      by_cases e : k = i
      · subst e; rw [if_pos rfl, if_pos (by omega)]
      · rw [if_neg e]
        by_cases e2 : k < i
        · rw [if_pos e2, if_pos (by omega)]
        · rw [if_neg e2, if_neg (by omega)])]
    exact gk_next hk
  · have : i = xs.length := by omega
    subst this
    rw [tabS_congr (g := fun k => (nth xs k, nth ws k)) (fun k hk => if_pos hk)]
    (repeat (first | refine gst (hk := ?_) | (show GO _ _ _ _ _ (⟨some _, none, _⟩ :: _) _; first | refine go_op (hk := ?_) | (refine go_nw (hk := ?_); intro u; try simp only [llc, lln, lna, lza]) | (refine go_np (hk := ?_); intro id)) | (show GO _ _ _ _ _ (⟨none, none, _⟩ :: _) _; refine go_st (hk := ?_)) | (show GO _ _ _ _ _ (⟨_, some _, _⟩ :: _) _; first | refine go_in (hk := ?_) | refine go_out (hk := ?_) | refine go_void (hk := ?_)) | (show GK _ _ _ _ (blockK _ _ _); refine gk_past rfl ?_) | (show GC _ _ _ _ _ (.cond _ _ _) _; first | refine gc_yes (h1 := ?_) | refine gc_no (h1 := ?_))))
    exact gk_ret rfl fun H' hH => hH.give .head
/- windows of them -/

abbrev wnL (xs ws : List Int) (i e : Nat) : List (Int × Int) := ((ptL xs ws).drop i).take (e - i)

theorem wn_len {xs ws : List Int} {i e : Nat} (h : i ≤ e ∧ e ≤ xs.length) : (wnL xs ws i e).length = e - i := by
  rw [List.length_take, List.length_drop, ptL_len]; omega

theorem wn_nth {xs ws : List Int} {i e j : Nat} (h : e ≤ xs.length) (hj : j < e - i) : nthP (wnL xs ws i e) j = (nth xs (i + j), nth ws (i + j)) := by
  have h1 : i + j < (ptL xs ws).length := by rw [ptL_len]; omega
  rw [← ptL_nth (xs := xs) (ys := ws) (i := i + j) (by omega)]
  rw [show nthP (wnL xs ws i e) j = (wnL xs ws i e)[j]'(by rw [List.length_take, List.length_drop, ptL_len]; omega) from nthA_of _, show nthP (ptL xs ws) (i + j) = (ptL xs ws)[i + j] from nthA_of h1, List.getElem_take, List.getElem_drop]

theorem wn_join {xs ws : List Int} {i m e : Nat} (h : i ≤ m ∧ m ≤ e) : wnL xs ws i m ++ wnL xs ws m e = wnL xs ws i e := by
  unfold wnL
  have e1 : ((ptL xs ws).drop i).take (e - i) = ((ptL xs ws).drop i).take ((m - i) + (e - m)) := by congr 1; omega
  rw [e1, List.take_add, List.drop_drop, show i + (m - i) = m by omega]

theorem totalOf_ok {H : Heap} {w : AV} {xs ws : List Int} {i e : Nat} (hw : Vals H w 2 (e - i) (pns (wnL xs ws i e))) (hL : Loads xs ws) (h1 : i ≤ e) (h2 : e ≤ xs.length) :
    ACalls Try.prog fn_impl_totalOf [w] H fun r H' => r = pnV (sumI ws e - sumI ws i, dotT xs ws e - dotT xs ws i) ∧ H' = H := by
  refine ACalls.val ?_ rfl
  have hn := hL.2.2.2.2
  refine code_impl_totalOf.go [roP w (e - i) (wnL xs ws i e)] ⟨⟨rfl, hw⟩, trivial⟩ (by simp) ?_
  unfold mc_impl_totalOf
  (repeat (first | refine gst (hk := ?_) | (show GO _ _ _ _ _ (⟨some _, none, _⟩ :: _) _; first | refine go_op (hk := ?_) | (refine go_nw (hk := ?_); intro u; try simp only [llc, lln, lna, lza]) | (refine go_np (hk := ?_); intro id)) | (show GO _ _ _ _ _ (⟨none, none, _⟩ :: _) _; refine go_st (hk := ?_)) | (show GO _ _ _ _ _ (⟨_, some _, _⟩ :: _) _; first | refine go_in (hk := ?_) | refine go_out (hk := ?_) | refine go_void (hk := ?_)) | (show GK _ _ _ _ (blockK _ _ _); refine gk_past rfl ?_) | (show GC _ _ _ _ _ (.cond _ _ _) _; first | refine gc_yes (h1 := ?_) | refine gc_no (h1 := ?_))))
  rename_i i2
  revert id; intro i3
  refine gc_up (e - i) (fun d => [(2, .ptr i2 0), (3, .ptr i3 0), (6, w), (7, .int .i64 ((e - i : Nat) : Int)), (8, .int .i64 (d : Int))]) (fun d => [⟨.cell, .ptr i3 0, 2, 1, [.int .i64 (sumI ws (i + d) - sumI ws i), .int .i64 (dotT xs ws (i + d) - dotT xs ws i)]⟩, cel0 i2, roP w (e - i) (wnL xs ws i e)]) (hS := by
    rw [Nat.add_zero, Int.sub_self, Int.sub_self]; exact Sub.auto) (hb := ?_)
  intro d hd I ν m hk
  have hs := hL.sums (i := i) (e := i + d) (by omega) (by omega)
  (repeat (first | refine gst (hk := ?_) | (show GO _ _ _ _ _ (⟨some _, none, _⟩ :: _) _; first | refine go_op (hk := ?_) | (refine go_nw (hk := ?_); intro u; try simp only [llc, lln, lna, lza]) | (refine go_np (hk := ?_); intro id)) | (show GO _ _ _ _ _ (⟨none, none, _⟩ :: _) _; refine go_st (hk := ?_)) | (show GO _ _ _ _ _ (⟨_, some _, _⟩ :: _) _; first | refine go_in (hk := ?_) | refine go_out (hk := ?_) | refine go_void (hk := ?_)) | (show GK _ _ _ _ (blockK _ _ _); refine gk_past rfl ?_) | (show GC _ _ _ _ _ (.cond _ _ _) _; first | refine gc_yes (h1 := ?_) | refine gc_no (h1 := ?_))))
  refine gc_cond rfl (fun h => ?_) (fun h => ?_)
  · have hk := hk (by omega)
    have hw := hL.w (i := i + d) (by omega)
    have hx := hL.x (i + d)
    have m1 : nth xs (i + d) * nth ws (i + d) ≤ 30 * nth ws (i + d) := Int.mul_le_mul_of_nonneg_right hx.2 (by omega)
    have m2 : -30 * nth ws (i + d) ≤ nth xs (i + d) * nth ws (i + d) := Int.mul_le_mul_of_nonneg_right hx.1 (by omega)
    rw [show dotT xs ws (i + (d + 1)) = dotT xs ws (i + d) + nth xs (i + d) * nth ws (i + d) from rfl, show sumI ws (i + (d + 1)) = sumI ws (i + d) + nth ws (i + d) from rfl] at hk
    (repeat (first | refine gst (hk := ?_) | (show GO _ _ _ _ _ (⟨some _, none, _⟩ :: _) _; first | refine go_op (hk := ?_) | (refine go_nw (hk := ?_); intro u; try simp only [llc, lln, lna, lza]) | (refine go_np (hk := ?_); intro id)) | (show GO _ _ _ _ _ (⟨none, none, _⟩ :: _) _; refine go_st (hk := ?_)) | (show GO _ _ _ _ _ (⟨_, some _, _⟩ :: _) _; first | refine go_in (hk := ?_) | refine go_out (hk := ?_) | refine go_void (hk := ?_)) | (show GK _ _ _ _ (blockK _ _ _); refine gk_past rfl ?_) | (show GC _ _ _ _ _ (.cond _ _ _) _; first | refine gc_yes (h1 := ?_) | refine gc_no (h1 := ?_))))
    refine go_is rfl (stp_ldK cels_pn (0, 0) (i := d) rfl (by exact Has.auto) (wn_len ⟨h1, h2⟩).symm (by rw [wn_len ⟨h1, h2⟩]; omega)) ?_
    rw [show nthA (0, 0) (wnL xs ws i e) d = (nth xs (i + d), nth ws (i + d)) from wn_nth h2 (by omega)]
    simp only [pnC]
    generalize hP : nth xs (i + d) * nth ws (i + d) = P at *
    (repeat (first | refine gst (hk := ?_) | (show GO _ _ _ _ _ (⟨some _, none, _⟩ :: _) _; first | refine go_op (hk := ?_) | (refine go_nw (hk := ?_); intro u; try simp only [llc, lln, lna, lza]) | (refine go_np (hk := ?_); intro id)) | (show GO _ _ _ _ _ (⟨none, none, _⟩ :: _) _; refine go_st (hk := ?_)) | (show GO _ _ _ _ _ (⟨_, some _, _⟩ :: _) _; first | refine go_in (hk := ?_) | refine go_out (hk := ?_) | refine go_void (hk := ?_)) | (show GK _ _ _ _ (blockK _ _ _); refine gk_past rfl ?_) | (show GC _ _ _ _ _ (.cond _ _ _) _; first | refine gc_yes (h1 := ?_) | refine gc_no (h1 := ?_))))
    refine go_is0 rfl (stp_st20 rfl rfl rfl rfl (by exact Sel.auto)) ?_
    (repeat (first | refine gst (hk := ?_) | (show GO _ _ _ _ _ (⟨some _, none, _⟩ :: _) _; first | refine go_op (hk := ?_) | (refine go_nw (hk := ?_); intro u; try simp only [llc, lln, lna, lza]) | (refine go_np (hk := ?_); intro id)) | (show GO _ _ _ _ _ (⟨none, none, _⟩ :: _) _; refine go_st (hk := ?_)) | (show GO _ _ _ _ _ (⟨_, some _, _⟩ :: _) _; first | refine go_in (hk := ?_) | refine go_out (hk := ?_) | refine go_void (hk := ?_)) | (show GK _ _ _ _ (blockK _ _ _); refine gk_past rfl ?_) | (show GC _ _ _ _ _ (.cond _ _ _) _; first | refine gc_yes (h1 := ?_) | refine gc_no (h1 := ?_))))
    rw [hP]
    (repeat (first | refine gst (hk := ?_) | (show GO _ _ _ _ _ (⟨some _, none, _⟩ :: _) _; first | refine go_op (hk := ?_) | (refine go_nw (hk := ?_); intro u; try simp only [llc, lln, lna, lza]) | (refine go_np (hk := ?_); intro id)) | (show GO _ _ _ _ _ (⟨none, none, _⟩ :: _) _; refine go_st (hk := ?_)) | (show GO _ _ _ _ _ (⟨_, some _, _⟩ :: _) _; first | refine go_in (hk := ?_) | refine go_out (hk := ?_) | refine go_void (hk := ?_)) | (show GK _ _ _ _ (blockK _ _ _); refine gk_past rfl ?_) | (show GC _ _ _ _ _ (.cond _ _ _) _; first | refine gc_yes (h1 := ?_) | refine gc_no (h1 := ?_))))
    rw [show sumI ws (i + d) + nth ws (i + d) - sumI ws i = sumI ws (i + d) - sumI ws i + nth ws (i + d) by omega, show dotT xs ws (i + d) + P - dotT xs ws i = dotT xs ws (i + d) - dotT xs ws i + P by omega] at hk
    exact gk_next hk
  · obtain rfl : d = e - i := by omega
    rw [show i + (e - i) = e by omega]
    (repeat (first | refine gst (hk := ?_) | (show GO _ _ _ _ _ (⟨some _, none, _⟩ :: _) _; first | refine go_op (hk := ?_) | (refine go_nw (hk := ?_); intro u; try simp only [llc, lln, lna, lza]) | (refine go_np (hk := ?_); intro id)) | (show GO _ _ _ _ _ (⟨none, none, _⟩ :: _) _; refine go_st (hk := ?_)) | (show GO _ _ _ _ _ (⟨_, some _, _⟩ :: _) _; first | refine go_in (hk := ?_) | refine go_out (hk := ?_) | refine go_void (hk := ?_)) | (show GK _ _ _ _ (blockK _ _ _); refine gk_past rfl ?_) | (show GC _ _ _ _ _ (.cond _ _ _) _; first | refine gc_yes (h1 := ?_) | refine gc_no (h1 := ?_))))
    exact gk_retc rfl (by exact Sel.auto) rfl rfl fun H' hH => ⟨rfl, hH.leE⟩

theorem meanOf_ok {H : Heap} {w : AV} {xs ws : List Int} {i e : Nat} (hw : Vals H w 2 (e - i) (pns (wnL xs ws i e))) (hL : Loads xs ws) (h1 : i < e) (h2 : e ≤ xs.length) :
    ACalls Try.prog fn_impl_meanOf [w] H fun r H' => r = frV (mnR xs ws i e) ∧ H' = H := by
  refine ACalls.val ?_ rfl
  have hs := (hL.sums (i := i) (e := e) (by omega) h2).2
  have hp := hL.pos h1 h2
  refine code_impl_meanOf.go [roP w (e - i) (wnL xs ws i e)] ⟨⟨rfl, hw⟩, trivial⟩ (by simp) ?_
  unfold mc_impl_meanOf
  (repeat (first | refine gst (hk := ?_) | (show GO _ _ _ _ _ (⟨some _, none, _⟩ :: _) _; first | refine go_op (hk := ?_) | (refine go_nw (hk := ?_); intro u; try simp only [llc, lln, lna, lza]) | (refine go_np (hk := ?_); intro id)) | (show GO _ _ _ _ _ (⟨none, none, _⟩ :: _) _; refine go_st (hk := ?_)) | (show GO _ _ _ _ _ (⟨_, some _, _⟩ :: _) _; first | refine go_in (hk := ?_) | refine go_out (hk := ?_) | refine go_void (hk := ?_)) | (show GK _ _ _ _ (blockK _ _ _); refine gk_past rfl ?_) | (show GC _ _ _ _ _ (.cond _ _ _) _; first | refine gc_yes (h1 := ?_) | refine gc_no (h1 := ?_))))
  refine go_callp rfl code_impl_totalOf.callable (fun H hH => totalOf_ok (hH.valsA (by exact Has.auto)) hL (by omega) h2) ?_
  (repeat (first | refine gst (hk := ?_) | (show GO _ _ _ _ _ (⟨some _, none, _⟩ :: _) _; first | refine go_op (hk := ?_) | (refine go_nw (hk := ?_); intro u; try simp only [llc, lln, lna, lza]) | (refine go_np (hk := ?_); intro id)) | (show GO _ _ _ _ _ (⟨none, none, _⟩ :: _) _; refine go_st (hk := ?_)) | (show GO _ _ _ _ _ (⟨_, some _, _⟩ :: _) _; first | refine go_in (hk := ?_) | refine go_out (hk := ?_) | refine go_void (hk := ?_)) | (show GK _ _ _ _ (blockK _ _ _); refine gk_past rfl ?_) | (show GC _ _ _ _ _ (.cond _ _ _) _; first | refine gc_yes (h1 := ?_) | refine gc_no (h1 := ?_))))
  refine go_callp rfl code_impl_lowest.callable (fun H hH => lowest_ok (a := dotT xs ws e - dotT xs ws i) (b := sumI ws e - sumI ws i) (by omega) (by omega) (by omega)) ?_
  rw [show ((dotT xs ws e - dotT xs ws i : Int) : Rat) / ((sumI ws e - sumI ws i : Int) : Rat) = mnR xs ws i e from rfl]
  (repeat (first | refine gst (hk := ?_) | (show GO _ _ _ _ _ (⟨some _, none, _⟩ :: _) _; first | refine go_op (hk := ?_) | (refine go_nw (hk := ?_); intro u; try simp only [llc, lln, lna, lza]) | (refine go_np (hk := ?_); intro id)) | (show GO _ _ _ _ _ (⟨none, none, _⟩ :: _) _; refine go_st (hk := ?_)) | (show GO _ _ _ _ _ (⟨_, some _, _⟩ :: _) _; first | refine go_in (hk := ?_) | refine go_out (hk := ?_) | refine go_void (hk := ?_)) | (show GK _ _ _ _ (blockK _ _ _); refine gk_past rfl ?_) | (show GC _ _ _ _ _ (.cond _ _ _) _; first | refine gc_yes (h1 := ?_) | refine gc_no (h1 := ?_))))
  exact gk_retc rfl (by exact Sel.auto) rfl rfl fun H' hH => ⟨rfl, hH.leE⟩

theorem cut_ok {H : Heap} {v : AV} {n l k : Nat} {cs : List AV} (hv : Vals H v 2 n cs) (hl : l ≤ k ∧ k < n) (hn : n ≤ 1000000) :
    ACalls Try.prog fn_impl_cut [v, .int .i64 (l : Int), .int .i64 (k : Int)] H fun r H' => r = winV v l (k + 1) ∧ Le H H' := by
  refine code_impl_cut.go [⟨.ro, v, 2, n, cs⟩] ⟨⟨rfl, hv⟩, trivial⟩ (by simp) ?_
  unfold mc_impl_cut
  (repeat (first | refine gst (hk := ?_) | (show GO _ _ _ _ _ (⟨some _, none, _⟩ :: _) _; first | refine go_op (hk := ?_) | (refine go_nw (hk := ?_); intro u; try simp only [llc, lln, lna, lza]) | (refine go_np (hk := ?_); intro id)) | (show GO _ _ _ _ _ (⟨none, none, _⟩ :: _) _; refine go_st (hk := ?_)) | (show GO _ _ _ _ _ (⟨_, some _, _⟩ :: _) _; first | refine go_in (hk := ?_) | refine go_out (hk := ?_) | refine go_void (hk := ?_)) | (show GK _ _ _ _ (blockK _ _ _); refine gk_past rfl ?_) | (show GC _ _ _ _ _ (.cond _ _ _) _; first | refine gc_yes (h1 := ?_) | refine gc_no (h1 := ?_))))
  refine go_is rfl (stp_sl3 (l := l) (h := k + 1) rfl rfl rfl rfl (by exact Has.auto) (by omega)) ?_
  (repeat (first | refine gst (hk := ?_) | (show GO _ _ _ _ _ (⟨some _, none, _⟩ :: _) _; first | refine go_op (hk := ?_) | (refine go_nw (hk := ?_); intro u; try simp only [llc, lln, lna, lza]) | (refine go_np (hk := ?_); intro id)) | (show GO _ _ _ _ _ (⟨none, none, _⟩ :: _) _; refine go_st (hk := ?_)) | (show GO _ _ _ _ _ (⟨_, some _, _⟩ :: _) _; first | refine go_in (hk := ?_) | refine go_out (hk := ?_) | refine go_void (hk := ?_)) | (show GK _ _ _ _ (blockK _ _ _); refine gk_past rfl ?_) | (show GC _ _ _ _ _ (.cond _ _ _) _; first | refine gc_yes (h1 := ?_) | refine gc_no (h1 := ?_))))
  exact gk_ret rfl fun H' hH => ⟨rfl, hH.leE⟩

def rvF (l n i k : Nat) : Nat := if l + i ≤ k ∧ k < n - i then k else if l ≤ k then l + (n - 1 - k) else k

theorem rv_zero {l n k : Nat} (h : k < n) : rvF l n 0 k = k := by unfold rvF; split <;> (try split) <;> omega

theorem rv_next {l n i k : Nat} (hk : k < n) (h : i < n - l - 1 - i) (hl : l ≤ n) : rvF l n (i + 1) k = if k = l + (n - l - 1 - i) then l + i else if k = l + i then n - 1 - i else rvF l n i k := by
  unfold rvF
  (repeat' split) <;> omega

theorem tab_self {α : Type} (d : α) {n : Nat} {L : List α} (hn : n = L.length) : tabS n (fun k => nthA d L k) = L := by
  subst hn
  apply List.ext_getElem
  · rw [tabS_len]
  · intro k h1 h2
    simp only [tabS, List.getElem_map, List.getElem_range]
    exact nthA_of h2

theorem rv_end {α : Type} (d : α) {l n i : Nat} {L : List α} (hn : n = L.length) (hl : l ≤ n) (h : n - l - 1 - i ≤ i) (h2 : l + 2 * i ≤ n + 1) : (tabS n fun k => nthA d L (rvF l n i k)) = L.take l ++ (L.drop l).reverse := by
  have hlen : (L.take l ++ (L.drop l).reverse).length = n := by simp; omega
  apply List.ext_getElem
  · rw [tabS_len, hlen]
  · intro k h3 h4
    rw [tabS_len] at h3
    simp only [tabS, List.getElem_map, List.getElem_range]
    rcases Nat.lt_or_ge k l with g | g
    · have e : rvF l n i k = k := by unfold rvF; (repeat' split) <;> omega
      rw [e, List.getElem_append_left (by simp; omega), List.getElem_take]
      exact nthA_of (by omega)
    · have e : rvF l n i k = l + (n - 1 - k) := by unfold rvF; (repeat' split) <;> omega
      rw [e, nthA_of (by omega), List.getElem_append_right (by simp; omega), List.getElem_reverse, List.getElem_drop]
      congr 1
      simp; omega

def OneC (a : AV) : Prop := a.cells = [a] ∧ a.one = true

theorem one_slice {H : Heap} {v : AV} {es n : Nat} {cs : List AV} (h : Vals H v es n cs) : OneC v := by
  have hs := h.sl
  cases v <;> simp [AV.isSlice] at hs <;> exact ⟨rfl, rfl⟩

theorem stp_stv1 {A : Heap} {X : List Nat} {E : List (Nat × AV)} {S S0 : Sig} {p x : MX} {v u : AV} {n i : Nat} {vs : List AV} (hp : evE E p = some (v.elem i)) (hx : evE E x = some u) (hu : OneC u) (hs : Sel S ⟨.rw, v, 1, n, vs⟩ S0) (hi : i < n) : Stp A X E S (.st p x 1) (Is .any (⟨.rw, v, 1, n, vs.set i u⟩ :: S0)) := by
  refine ⟨?_⟩
  intro τ H m nid hE hS hm
  have hS' := hS.sel hs
  obtain ⟨h1, h2, h3⟩ := hS'.ch ⟨.rw, v, 1, n, vs⟩ (by simp)
  simp only [Nat.mul_one] at h1 h2 h3
  rcases h3 with ⟨_, h3⟩ | ⟨id, rfl, h4, h5⟩
  · omega
  · have hH : H.write (AV.elem (.slice id 0 n none 1) i) [u] = some (H.put id (some ⟨true, vs.set i u⟩)) := by
      simp only [AV.elem, Heap.write, h5]
      rw [if_pos ⟨trivial, by simp only [List.length_cons, List.length_nil]; omega, by simp [hu.2]⟩, Nat.zero_add, Nat.mul_one, List.set_eq_take_append_cons_drop, if_pos (by omega)]
      simp
    refine ⟨.any, _, H.put id (some ⟨true, vs.set i u⟩), m, ⟨rfl, rfl⟩, ?_, ?_, Nat.le_refl _, by omega, Nat.le_refl _⟩
    · simp only [mstep, ev_of hE hp, ev_of hE hx, hu.1, List.length_cons, List.length_nil, Nat.zero_add, if_true, hH, Option.map_some]
    · refine hS'.mod rfl ?_ (Nat.le_refl _) hS.mh ?_ (.inl rfl)
      · intro id' _ hne
        rw [Heap.get_put, if_neg]
        intro e; subst e; exact hne rfl
      · refine ⟨h1, by simp [h2], .inr ⟨id, rfl, h4, by simp [Heap.get_put]⟩⟩

abbrev nthV (vs : List AV) (i : Nat) : AV := nthA .any vs i

theorem nthV_one {vs : List AV} (h : ∀ u ∈ vs, OneC u) {i : Nat} (hi : i < vs.length) : OneC (nthV vs i) := by
  rw [show nthV vs i = vs[i] from nthA_of hi]; exact h _ (List.getElem_mem hi)

theorem stp_ldV {A : Heap} {X : List Nat} {E : List (Nat × AV)} {S : Sig} {p : MX} {v : AV} {n i : Nat} {vs : List AV} (hp : evE E p = some (v.elem i)) (hh : Has S v 1 n vs) (hn : n = vs.length) (hi : i < vs.length) : Stp A X E S (.ld p 1 false) (Is (nthV vs i) S) :=
  stp_ldn (ds := [nthV vs i]) hp hh (by omega) (by
    rw [Nat.mul_one, show nthV vs i = vs[i] from nthA_of hi, List.drop_eq_getElem_cons hi]; rfl) rfl

end Go.Rx.Try
