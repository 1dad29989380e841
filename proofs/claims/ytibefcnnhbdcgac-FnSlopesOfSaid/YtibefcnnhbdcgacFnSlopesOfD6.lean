import Derived.Test.YtibefcnnhbdcgacFnSlopesOfD5
namespace Go.Rx.Try
open Go.Proofs
set_option maxRecDepth 100000
set_option maxHeartbeats 8000000
set_option linter.unusedSimpArgs false
set_option linter.unusedVariables false

theorem through_ok {H : Heap} {p q : Int × Int} (hp : P12 p) (hq : P12 q) (h : p.1 ≠ q.1) :
    ACalls Try.prog fn_impl_through [pnV p, pnV q] H fun r H' => r = lnV (thS p q) (thH p q) ∧ H' = H := by
  refine ACalls.val ?_ rfl
  obtain ⟨D, d, f, _⟩ := th_fd hp hq h
  obtain ⟨a1, a2⟩ := hp
  obtain ⟨b1, b2⟩ := hq
  have fl := LineOk.flat f d
  obtain ⟨f1, _, _⟩ := fl.fits (x := p.1) (y := p.2) (by omega) (by omega)
  obtain ⟨f2, _⟩ := fl.fitsB (x := p.1) (y := p.2) (by omega) (by omega)
  have e : ((p.2 : Int) : Rat) - thS p q * ((p.1 : Int) : Rat) = thH p q := by
    unfold thH
    rw [show ((0 : Int) : Rat) = 0 from rfl]; grind
  refine code_impl_through.go [] trivial (by simp) ?_
  unfold mc_impl_through
  (repeat (first | with_reducible (first | refine go_nil ?_ | refine gk_seq ?_ | refine gc_seq ?_ | refine gc_reg ?_ | refine gc_skip ?_ | refine gk_block ?_ | refine gc_block ?_ | refine gc_exit ?_ | refine gc_ret ?_ | refine gk_seqret ?_ | refine gk_seqexit ?_ | refine gk_blockret ?_ | refine gk_out ?_ | refine gk_loopret ?_ | refine gk_loopexit ?_ | refine gr_nil ?_) | (show GO _ _ _ _ _ (⟨some _, none, _⟩ :: _) _; first | refine go_op (hk := ?_) | (refine go_nw (hk := ?_); intro u; try simp only [List.length_cons, List.length_nil, List.nil_append, Nat.zero_add]) | (refine go_np (hk := ?_); intro id)) | (show GR _ _ _ _ _ _ (⟨some _, none, _⟩ :: _) _; refine gr_op (hk := ?_)) | (show GO _ _ _ _ _ (⟨none, none, _⟩ :: _) _; refine go_st (hk := ?_)) | (show GR _ _ _ _ _ _ (⟨none, none, _⟩ :: _) _; refine gr_st (hk := ?_)) | (show GO _ _ _ _ _ (⟨_, some _, _⟩ :: _) _; first | refine go_in (hk := ?_) | refine go_out (hk := ?_) | refine go_void (hk := ?_)) | (show GK _ _ _ _ (blockK _ _ _); refine gk_past rfl ?_) | (show GC _ _ _ _ _ (.cond _ _ _) _; first | refine gc_yes (h1 := ?_) | refine gc_no (h1 := ?_))))
  refine go_callp rfl code_impl_lowest.callable (fun H hH => lowest_ok (a := q.2 - p.2) (b := q.1 - p.1) (by omega) (by omega) (by omega)) ?_
  rw [show ((q.2 - p.2 : Int) : Rat) / ((q.1 - p.1 : Int) : Rat) = thS p q from rfl]
  (repeat (first | with_reducible (first | refine go_nil ?_ | refine gk_seq ?_ | refine gc_seq ?_ | refine gc_reg ?_ | refine gc_skip ?_ | refine gk_block ?_ | refine gc_block ?_ | refine gc_exit ?_ | refine gc_ret ?_ | refine gk_seqret ?_ | refine gk_seqexit ?_ | refine gk_blockret ?_ | refine gk_out ?_ | refine gk_loopret ?_ | refine gk_loopexit ?_ | refine gr_nil ?_) | (show GO _ _ _ _ _ (⟨some _, none, _⟩ :: _) _; first | refine go_op (hk := ?_) | (refine go_nw (hk := ?_); intro u; try simp only [List.length_cons, List.length_nil, List.nil_append, Nat.zero_add]) | (refine go_np (hk := ?_); intro id)) | (show GR _ _ _ _ _ _ (⟨some _, none, _⟩ :: _) _; refine gr_op (hk := ?_)) | (show GO _ _ _ _ _ (⟨none, none, _⟩ :: _) _; refine go_st (hk := ?_)) | (show GR _ _ _ _ _ _ (⟨none, none, _⟩ :: _) _; refine gr_st (hk := ?_)) | (show GO _ _ _ _ _ (⟨_, some _, _⟩ :: _) _; first | refine go_in (hk := ?_) | refine go_out (hk := ?_) | refine go_void (hk := ?_)) | (show GK _ _ _ _ (blockK _ _ _); refine gk_past rfl ?_) | (show GC _ _ _ _ _ (.cond _ _ _) _; first | refine gc_yes (h1 := ?_) | refine gc_no (h1 := ?_))))
  refine gc_drc (fun _ => qtTab [(fn_impl_whole, dWhole), (fn_impl_Frac_times, dTimesI), (fn_impl_Frac_minus, dMinusI)]) (fun H _ => qtTab_cons (dWhole_ok H) (qtTab_cons (dTimesI_ok H) (qtTab_cons (dMinusI_ok H) qtTab_nil))) (fun H0 => ?_)
  (repeat (first | with_reducible (first | refine go_nil ?_ | refine gk_seq ?_ | refine gc_seq ?_ | refine gc_reg ?_ | refine gc_skip ?_ | refine gk_block ?_ | refine gc_block ?_ | refine gc_exit ?_ | refine gc_ret ?_ | refine gk_seqret ?_ | refine gk_seqexit ?_ | refine gk_blockret ?_ | refine gk_out ?_ | refine gk_loopret ?_ | refine gk_loopexit ?_ | refine gr_nil ?_) | (show GO _ _ _ _ _ (⟨some _, none, _⟩ :: _) _; first | refine go_op (hk := ?_) | (refine go_nw (hk := ?_); intro u; try simp only [List.length_cons, List.length_nil, List.nil_append, Nat.zero_add]) | (refine go_np (hk := ?_); intro id)) | (show GR _ _ _ _ _ _ (⟨some _, none, _⟩ :: _) _; refine gr_op (hk := ?_)) | (show GO _ _ _ _ _ (⟨none, none, _⟩ :: _) _; refine go_st (hk := ?_)) | (show GR _ _ _ _ _ _ (⟨none, none, _⟩ :: _) _; refine gr_st (hk := ?_)) | (show GO _ _ _ _ _ (⟨_, some _, _⟩ :: _) _; first | refine go_in (hk := ?_) | refine go_out (hk := ?_) | refine go_void (hk := ?_)) | (show GK _ _ _ _ (blockK _ _ _); refine gk_past rfl ?_) | (show GC _ _ _ _ _ (.cond _ _ _) _; first | refine gc_yes (h1 := ?_) | refine gc_no (h1 := ?_))))
  refine gr_call (v := frV ((p.2 : Int) : Rat)) rfl rfl ?_
  (repeat (first | with_reducible (first | refine go_nil ?_ | refine gk_seq ?_ | refine gc_seq ?_ | refine gc_reg ?_ | refine gc_skip ?_ | refine gk_block ?_ | refine gc_block ?_ | refine gc_exit ?_ | refine gc_ret ?_ | refine gk_seqret ?_ | refine gk_seqexit ?_ | refine gk_blockret ?_ | refine gk_out ?_ | refine gk_loopret ?_ | refine gk_loopexit ?_ | refine gr_nil ?_) | (show GO _ _ _ _ _ (⟨some _, none, _⟩ :: _) _; first | refine go_op (hk := ?_) | (refine go_nw (hk := ?_); intro u; try simp only [List.length_cons, List.length_nil, List.nil_append, Nat.zero_add]) | (refine go_np (hk := ?_); intro id)) | (show GR _ _ _ _ _ _ (⟨some _, none, _⟩ :: _) _; refine gr_op (hk := ?_)) | (show GO _ _ _ _ _ (⟨none, none, _⟩ :: _) _; refine go_st (hk := ?_)) | (show GR _ _ _ _ _ _ (⟨none, none, _⟩ :: _) _; refine gr_st (hk := ?_)) | (show GO _ _ _ _ _ (⟨_, some _, _⟩ :: _) _; first | refine go_in (hk := ?_) | refine go_out (hk := ?_) | refine go_void (hk := ?_)) | (show GK _ _ _ _ (blockK _ _ _); refine gk_past rfl ?_) | (show GC _ _ _ _ _ (.cond _ _ _) _; first | refine gc_yes (h1 := ?_) | refine gc_no (h1 := ?_))))
  refine gr_call rfl (dTimesI_is (p := thS p q) f1) ?_
  refine gr_call rfl (fam2_is (F := FitA) (p := ((p.2 : Int) : Rat)) (q := thS p q * ((p.1 : Int) : Rat)) f2) ?_
  rw [e]
  (repeat (first | with_reducible (first | refine go_nil ?_ | refine gk_seq ?_ | refine gc_seq ?_ | refine gc_reg ?_ | refine gc_skip ?_ | refine gk_block ?_ | refine gc_block ?_ | refine gc_exit ?_ | refine gc_ret ?_ | refine gk_seqret ?_ | refine gk_seqexit ?_ | refine gk_blockret ?_ | refine gk_out ?_ | refine gk_loopret ?_ | refine gk_loopexit ?_ | refine gr_nil ?_) | (show GO _ _ _ _ _ (⟨some _, none, _⟩ :: _) _; first | refine go_op (hk := ?_) | (refine go_nw (hk := ?_); intro u; try simp only [List.length_cons, List.length_nil, List.nil_append, Nat.zero_add]) | (refine go_np (hk := ?_); intro id)) | (show GR _ _ _ _ _ _ (⟨some _, none, _⟩ :: _) _; refine gr_op (hk := ?_)) | (show GO _ _ _ _ _ (⟨none, none, _⟩ :: _) _; refine go_st (hk := ?_)) | (show GR _ _ _ _ _ _ (⟨none, none, _⟩ :: _) _; refine gr_st (hk := ?_)) | (show GO _ _ _ _ _ (⟨_, some _, _⟩ :: _) _; first | refine go_in (hk := ?_) | refine go_out (hk := ?_) | refine go_void (hk := ?_)) | (show GK _ _ _ _ (blockK _ _ _); refine gk_past rfl ?_) | (show GC _ _ _ _ _ (.cond _ _ _) _; first | refine gc_yes (h1 := ?_) | refine gc_no (h1 := ?_))))
  exact gk_retc rfl (by exact Sel.auto) rfl rfl fun H' hH => ⟨rfl, hH.leE⟩

def pnOf : AV → Option (Int × Int)
  | .agg [.int .i64 a, .int .i64 b] => some (a, b)
  | _ => none

theorem pnOf_some {v : AV} {p : Int × Int} (h : pnOf v = some p) : v = pnV p := by
  unfold pnOf at h
  split at h
  · simp only [Option.some.injEq] at h; subst h; rfl
  · cases h

noncomputable def dThrough : List AV → Option AV
  | [v, w] => match pnOf v, pnOf w with
    | some p, some q => by
      classical
      exact if P12 p ∧ P12 q ∧ p.1 ≠ q.1 then some (lnV (thS p q) (thH p q)) else none
    | _, _ => none
  | _ => none

theorem dThrough_is {p q : Int × Int} (hp : P12 p) (hq : P12 q) (h : p.1 ≠ q.1) : dThrough [pnV p, pnV q] = some (lnV (thS p q) (thH p q)) := by
  simp only [dThrough, pnOf]
  exact if_pos ⟨hp, hq, h⟩

theorem dThrough_ok (H : Heap) : FamOk Try.prog H fn_impl_through dThrough := by
  intro args v hv
  unfold dThrough at hv
  split at hv
  · split at hv
    · rename_i p q h1 h2
      split at hv
      · rename_i hF
        simp only [Option.some.injEq] at hv; subst hv
        rw [pnOf_some h1, pnOf_some h2]
        exact ⟨code_impl_through.callable, through_ok hF.1 hF.2.1 hF.2.2⟩
      · cases hv
    · cases hv
  · cases hv

theorem pts12 {xs ys : List Int} (hp : Pts xs ys) {i : Nat} (hi : i < xs.length) : P12 (nth xs i, nth ys i) := by
  have := hp.1 i hi
  exact ⟨this.2.1, this.2.2⟩

theorem sel_of_mem {c : Ch} : ∀ {S : Sig}, c ∈ S → ∃ S0, Sel S c S0 ∧ (c :: S0).Perm S
  | [], h => by cases h
  | d :: S, h => by
    rcases List.mem_cons.1 h with rfl | h
    · exact ⟨S, .head, List.Perm.refl _⟩
    · obtain ⟨S0, h1, h2⟩ := sel_of_mem h
      exact ⟨d :: S0, .tail h1, (List.Perm.swap d c S0).trans (h2.cons d)⟩

theorem sub_perm : ∀ {S' S : Sig}, S'.Perm S → Sub S S'
  | [], _, _ => .nil
  | c :: R, S, h => by
    obtain ⟨S0, h1, h2⟩ := sel_of_mem (h.mem_iff.1 (List.mem_cons_self ..))
    exact .cons h1 (sub_perm (h.trans h2.symm).cons_inv)

theorem sub_swap (L M : Sig) : Sub (L ++ M) (M ++ L) := sub_perm List.perm_append_comm

theorem sub_pre : ∀ {S' R S : Sig}, Sub S (S' ++ R) → Sub S S'
  | [], _, _, _ => .nil
  | _ :: _, _, _, .cons h h' => .cons h (sub_pre h')

theorem sub_back (c : Ch) (M F : Sig) : Sub (M ++ c :: F) (F ++ M) :=
  sub_pre (R := [c]) (sub_perm ((List.perm_append_singleton c (F ++ M)).trans ((List.perm_append_comm.cons c).trans List.perm_middle.symm)))

theorem go_freeze {P : Program} {A : Heap} {X : List Nat} {E : List (Nat × AV)} {S S0 : Sig} {K : St → Prop} {l : List MI} {v : AV} {es n : Nat} {cs : List AV} (hs : Sel S ⟨.rw, v, es, n, cs⟩ S0) (h : GO P A X E (⟨.ro, v, es, n, cs⟩ :: S0) l K) : GO P A X E S l K := ⟨fun s hf => h.g s ⟨hf.env, (hf.ok.sel hs).freeze⟩⟩

theorem go_yieldE {P : Program} {A : Heap} {X : List Nat} {E : List (Nat × AV)} {S : Sig} {K : St → Prop} {r : List MI} {d : Nat} {γ : Type} {id : Nat} {fv : MX} {args : List MX} {xs : List AV} {S2 : γ → Sig} (hv : evE E fv = some (.yld id)) (ha : evsE E args = some xs)
    (h : ∀ H, SOk A X S H.size H → AYield P id xs H fun t H' => t = true ∧ ∃ g, SOk A X (S2 g) H'.size H') (hk : ∀ g, GO P A X ((d, .bool true) :: E) (S2 g) r K) : GO P A X E S (⟨some d, none, .callv fv args⟩ :: r) K := by
  refine ⟨fun s hf => ?_⟩
  rw [mops_cons]
  simp only [mone, mexec, ev_of hf.env hv]
  have := h s.H hf.ok
  rw [← evs_of hf.env ha] at this
  refine ⟨_, this, ?_⟩
  rintro b H' ⟨rfl, g, hS⟩
  exact (hk g).g _ ⟨look_cons hf.env d _, hS⟩

theorem gc_rfuncE {P : Program} {A : Heap} {X : List Nat} {E : List (Nat × AV)} {S : Sig} {Q : Exit → St → Prop} {ι γ : Type} {g : MX} {ps : List Nat} {a b : MC} {f : FuncId} {caps : List AV} (T : ι → γ → Sig) (Rd : ι → ι → List AV → Prop) (i0 iN : ι) (g0 : γ)
    (hg : evE E g = some (.func f caps)) (hc : Callable P f) (hS : Sub S (T i0 g0))
    (hit : ∀ (A' : Heap) (id : Nat) (H : Heap), (∀ i j xs, Rd i j xs → ∀ (F : Sig) (z : γ) H', SOk A' X (T i z ++ F) H'.size H' → AYield P id xs H' fun t H'' => t = true ∧ ∃ z', SOk A' X (T j z' ++ F) H''.size H'') → SOk A' X (T i0 g0) H.size H → ACalls P f (.yld id :: caps) H fun _ H' => ∃ z, SOk A' X (T iN z) H'.size H')
    (hb : ∀ i j xs, Rd i j xs → xs.length = ps.length ∧ ∀ (F : Sig) (z : γ) (ob1 ob2 : Nat → Option OB) (Q1 Q2 : Exit → St → Prop), (∀ E' S', GC P (A.obs ob2) X E' S' b Q2 → GK (A.obs ob1) X E' S' (Q1 .normal)) → (∀ E' z', GK (A.obs ob2) X E' (T j z' ++ F) (Q2 .normal)) → GC P (A.obs ob1) X (setE E ps xs) (T i z ++ F) a Q1)
    (hk : ∀ z, GK A X E (T iN z) (Q .normal)) : GC P A X E S (.rfunc g ps a b) Q := by
  refine ⟨fun s hf => ?_⟩
  simp only [mwp, mrfunc, ev_of hf.env hg]
  refine ⟨hc, fun o ho hnone hround => ?_⟩
  obtain ⟨id, hid⟩ : ∃ id, id = s.H.size := ⟨_, rfl⟩
  rw [← hid] at hround hnone ⊢
  obtain ⟨ob1, hob1⟩ : ∃ ob1 : Nat → Option OB, ob1 = fun i => if i = id then some (lst o .ready none) else A.ob i := ⟨_, rfl⟩
  obtain ⟨ob2, hob2⟩ : ∃ ob2 : Nat → Option OB, ob2 = fun i => if i = id then some (lst o .busy none) else A.ob i := ⟨_, rfl⟩
  have e1 : ob1 id = some (lst o .ready none) := by rw [hob1]; simp
  have e2 : ob2 id = some (lst o .busy none) := by rw [hob2]; simp
  have e12 : (fun i => if i = id then some (lst o .busy none) else ob1 i) = ob2 := by
    rw [hob1, hob2]; funext i; by_cases h : i = id <;> simp [h]
  have e21 : (fun i => if i = id then some (lst o .ready none) else ob2 i) = ob1 := by
    rw [hob1, hob2]; funext i; by_cases h : i = id <;> simp [h]
  refine ⟨fun _ H' => ∃ z, SOk (A.obs ob1) X (T iN z) H'.size H', hit (A.obs ob1) id _ ?_ ?_, ?_⟩
  · intro i j xs hY F z H' hH'
    obtain ⟨hlen, hbody⟩ := hb i j xs hY
    have hHob : H'.ob = ob1 := hH'.le.ob
    refine hround xs H' _ hlen (by rw [hHob]; exact e1) ?_
    refine (hbody F z ob1 ob2 _ (roundK id o fun t H'' => t = true ∧ ∃ z', SOk (A.obs ob1) X (T j z' ++ F) H''.size H'') ?_ ?_).g ⟨setp s.τ ps xs, H'⟩ ⟨setE_ok ps xs E s.τ hf.env, hH'⟩
    · intro E' S' hgc
      refine ⟨fun s' hf' => ?_⟩
      have h1 : s'.H.ob = ob1 := hf'.ok.le.ob
      refine ⟨by rw [h1]; exact e1, hgc.g _ ⟨hf'.env, ?_⟩⟩
      have h2 := hf'.ok.obs ob2 (Nat.le_refl _) hf'.ok.mh
      have h3 : s'.H.seto id (some (lst o .busy none)) = ⟨s'.H.size, s'.H.get, ob2⟩ := by simp only [Heap.seto, h1, e12]
      rw [h3]; exact h2
    · intro E' z'
      refine ⟨fun s' hf' => ?_⟩
      have h1 : s'.H.ob = ob2 := hf'.ok.le.ob
      refine ⟨by rw [h1]; exact e2, rfl, z', ?_⟩
      have h2 := hf'.ok.obs ob1 (Nat.le_refl _) hf'.ok.mh
      have h3 : s'.H.seto id (some (lst o .ready none)) = ⟨s'.H.size, s'.H.get, ob1⟩ := by simp only [Heap.seto, h1, e21]
      rw [h3]; exact h2
  · have h0 := (hf.ok.sub hS).obs ob1 (Nat.le_succ _) (Nat.le_refl _)
    have h3 : s.H.newo (lst o .ready none) = ⟨s.H.size + 1, s.H.get, ob1⟩ := by
      simp only [Heap.newo, hob1, hf.ok.le.ob, hid]
    rw [h3]; exact h0
  · rintro r' H' ⟨z, hH'⟩
    have h1 : H'.ob = ob1 := hH'.le.ob
    refine ⟨.ready, none, by rw [h1]; exact e1, by simp, ?_⟩
    refine (hk z).g _ ⟨hf.env, ?_⟩
    have h2 := hH'.obs A.ob (Nat.le_refl _) hH'.mh
    have h3 : H'.seto id none = ⟨H'.size, H'.get, A.ob⟩ := by
      have hAob : A.ob id = none := by rw [← hf.ok.le.ob]; exact hnone
      simp only [Heap.seto, h1, hob1]
      congr 1
      funext i; by_cases h : i = id
      · subst h; simp [hAob]
      · simp [h]
    rw [h3]; exact h2
/- side by side: all two of the points with different xs -/

theorem sideBySide_ok {A : Heap} {X : List Nat} {S : Sig} {H : Heap} {w : AV} {n : Nat} {cs : List AV} (hS : SOk A X S H.size H) (hh : Has S w 2 n cs) :
    ACalls Try.prog fn_impl_sideBySide [w] H fun r H' => ∃ g : Nat, r = .func fn_impl_sideBySide_1 [.ptr g 0] ∧ SOk A X (⟨.cell, .ptr g 0, 1, 1, [w]⟩ :: S) H'.size H' ∧ True := by
  refine code_impl_sideBySide.gon (R := [⟨.ro, w, 2, n, cs⟩]) (V := fun g : Nat => .func fn_impl_sideBySide_1 [.ptr g 0]) (T := fun g => [⟨.cell, .ptr g 0, 1, 1, [w]⟩]) (Φ := fun _ => True) hS ⟨⟨rfl, hS.valsA hh⟩, trivial⟩ (fun _ => rfl) (by simp) ?_
  unfold mc_impl_sideBySide
  (repeat (first | with_reducible (first | refine go_nil ?_ | refine gk_seq ?_ | refine gc_seq ?_ | refine gc_reg ?_ | refine gc_skip ?_ | refine gk_block ?_ | refine gc_block ?_ | refine gc_exit ?_ | refine gc_ret ?_ | refine gk_seqret ?_ | refine gk_seqexit ?_ | refine gk_blockret ?_ | refine gk_out ?_ | refine gk_loopret ?_ | refine gk_loopexit ?_) | (show GO _ _ _ _ _ (⟨some _, none, _⟩ :: _) _; first | refine go_op (hk := ?_) | (refine go_nw (hk := ?_); intro u; try simp only [List.length_cons, List.length_nil, List.nil_append, Nat.zero_add]) | (refine go_np (hk := ?_); intro id)) | (show GO _ _ _ _ _ (⟨none, none, _⟩ :: _) _; refine go_st (hk := ?_)) | (show GO _ _ _ _ _ (⟨_, some _, _⟩ :: _) _; first | refine go_in (hk := ?_) | refine go_out (hk := ?_) | refine go_void (hk := ?_)) | (show GK _ _ _ _ (blockK _ _ _); refine gk_past rfl ?_) | (show GC _ _ _ _ _ (.cond _ _ _) _; first | refine gc_yes (h1 := ?_) | refine gc_no (h1 := ?_))))
  refine go_newp rfl (stp_boxv rfl (by exact Has.auto)) (fun pc => ?_)
  (repeat (first | with_reducible (first | refine go_nil ?_ | refine gk_seq ?_ | refine gc_seq ?_ | refine gc_reg ?_ | refine gc_skip ?_ | refine gk_block ?_ | refine gc_block ?_ | refine gc_exit ?_ | refine gc_ret ?_ | refine gk_seqret ?_ | refine gk_seqexit ?_ | refine gk_blockret ?_ | refine gk_out ?_ | refine gk_loopret ?_ | refine gk_loopexit ?_) | (show GO _ _ _ _ _ (⟨some _, none, _⟩ :: _) _; first | refine go_op (hk := ?_) | (refine go_nw (hk := ?_); intro u; try simp only [List.length_cons, List.length_nil, List.nil_append, Nat.zero_add]) | (refine go_np (hk := ?_); intro id)) | (show GO _ _ _ _ _ (⟨none, none, _⟩ :: _) _; refine go_st (hk := ?_)) | (show GO _ _ _ _ _ (⟨_, some _, _⟩ :: _) _; first | refine go_in (hk := ?_) | refine go_out (hk := ?_) | refine go_void (hk := ?_)) | (show GK _ _ _ _ (blockK _ _ _); refine gk_past rfl ?_) | (show GC _ _ _ _ _ (.cond _ _ _) _; first | refine gc_yes (h1 := ?_) | refine gc_no (h1 := ?_))))
  exact gk_ret rfl fun H' hH => ⟨pc, rfl, trivial, hH.sub (by exact Sub.auto)⟩

abbrev bx1 (i : Nat) (w : AV) : Ch := ⟨.cell, .ptr i 0, 1, 1, [w]⟩

theorem sideBySide1_ok {A : Heap} {X : List Nat} {H : Heap} {γ : Type} {yd i1 : Nat} {w : AV} {n : Nat} {L : List (Int × Int)} (hnL : L.length = n) (hn : n ≤ 1000000) (T : Nat → Nat → γ → Sig) (g0 : γ)
    (h0 : ∀ i, i < n → T i (n - (i + 1)) = T (i + 1) 0)
    (hT : ∀ i m, i + 1 + m < n → (nthP L i).1 = (nthP L (i + 1 + m)).1 → T i (m + 1) = T i m)
    (hy : ∀ i m, i + 1 + m < n → (nthP L i).1 ≠ (nthP L (i + 1 + m)).1 → ∀ (F : Sig) (z : γ) H', SOk A X ((bx1 i1 w :: roP w n L :: T i m z) ++ F) H'.size H' → AYield Try.prog yd [pnV (nthP L i), pnV (nthP L (i + 1 + m))] H' fun t H'' => t = true ∧ ∃ z', SOk A X ((bx1 i1 w :: roP w n L :: T i (m + 1) z') ++ F) H''.size H'')
    (hS : SOk A X (bx1 i1 w :: roP w n L :: T 0 0 g0) H.size H) :
    ACalls Try.prog fn_impl_sideBySide_1 [.yld yd, .ptr i1 0] H fun _ H' => ∃ z, SOk A X (bx1 i1 w :: roP w n L :: T n 0 z) H'.size H' := by
  subst hnL
  refine code_impl_sideBySide_1.gos hS (by simp) ?_
  unfold mc_impl_sideBySide_1
  (repeat (first | with_reducible (first | refine go_nil ?_ | refine gk_seq ?_ | refine gc_seq ?_ | refine gc_reg ?_ | refine gc_skip ?_ | refine gk_block ?_ | refine gc_block ?_ | refine gc_exit ?_ | refine gc_ret ?_ | refine gk_seqret ?_ | refine gk_seqexit ?_ | refine gk_blockret ?_ | refine gk_out ?_ | refine gk_loopret ?_ | refine gk_loopexit ?_) | (show GO _ _ _ _ _ (⟨some _, none, _⟩ :: _) _; first | refine go_op (hk := ?_) | (refine go_nw (hk := ?_); intro u; try simp only [List.length_cons, List.length_nil, List.nil_append, Nat.zero_add]) | (refine go_np (hk := ?_); intro id)) | (show GO _ _ _ _ _ (⟨none, none, _⟩ :: _) _; refine go_st (hk := ?_)) | (show GO _ _ _ _ _ (⟨_, some _, _⟩ :: _) _; first | refine go_in (hk := ?_) | refine go_out (hk := ?_) | refine go_void (hk := ?_)) | (show GK _ _ _ _ (blockK _ _ _); refine gk_past rfl ?_) | (show GC _ _ _ _ _ (.cond _ _ _) _; first | refine gc_yes (h1 := ?_) | refine gc_no (h1 := ?_))))
  refine gc_loop (γ := Nat × γ) (fun t => [(0, .yld yd), (1, .ptr i1 0), (7, w), (8, .int .i64 (L.length : Int)), (9, .int .i64 (t.1 : Int))]) (fun t => bx1 i1 w :: roP w L.length L :: T t.1 0 t.2) (fun t => t.1 ≤ L.length) (fun t => L.length - t.1) (0, g0) (Nat.zero_le _) (hS := sub_refl _) (hb := ?_)
  rintro ⟨i, z⟩ hi I ν m hk
  simp only at hi hk ⊢
  (repeat (first | with_reducible (first | refine go_nil ?_ | refine gk_seq ?_ | refine gc_seq ?_ | refine gc_reg ?_ | refine gc_skip ?_ | refine gk_block ?_ | refine gc_block ?_ | refine gc_exit ?_ | refine gc_ret ?_ | refine gk_seqret ?_ | refine gk_seqexit ?_ | refine gk_blockret ?_ | refine gk_out ?_ | refine gk_loopret ?_ | refine gk_loopexit ?_) | (show GO _ _ _ _ _ (⟨some _, none, _⟩ :: _) _; first | refine go_op (hk := ?_) | (refine go_nw (hk := ?_); intro u; try simp only [List.length_cons, List.length_nil, List.nil_append, Nat.zero_add]) | (refine go_np (hk := ?_); intro id)) | (show GO _ _ _ _ _ (⟨none, none, _⟩ :: _) _; refine go_st (hk := ?_)) | (show GO _ _ _ _ _ (⟨_, some _, _⟩ :: _) _; first | refine go_in (hk := ?_) | refine go_out (hk := ?_) | refine go_void (hk := ?_)) | (show GK _ _ _ _ (blockK _ _ _); refine gk_past rfl ?_) | (show GC _ _ _ _ _ (.cond _ _ _) _; first | refine gc_yes (h1 := ?_) | refine gc_no (h1 := ?_))))
  refine gc_cond rfl (fun h => ?_) (fun h => ?_)
  · (repeat (first | with_reducible (first | refine go_nil ?_ | refine gk_seq ?_ | refine gc_seq ?_ | refine gc_reg ?_ | refine gc_skip ?_ | refine gk_block ?_ | refine gc_block ?_ | refine gc_exit ?_ | refine gc_ret ?_ | refine gk_seqret ?_ | refine gk_seqexit ?_ | refine gk_blockret ?_ | refine gk_out ?_ | refine gk_loopret ?_ | refine gk_loopexit ?_) | (show GO _ _ _ _ _ (⟨some _, none, _⟩ :: _) _; first | refine go_op (hk := ?_) | (refine go_nw (hk := ?_); intro u; try simp only [List.length_cons, List.length_nil, List.nil_append, Nat.zero_add]) | (refine go_np (hk := ?_); intro id)) | (show GO _ _ _ _ _ (⟨none, none, _⟩ :: _) _; refine go_st (hk := ?_)) | (show GO _ _ _ _ _ (⟨_, some _, _⟩ :: _) _; first | refine go_in (hk := ?_) | refine go_out (hk := ?_) | refine go_void (hk := ?_)) | (show GK _ _ _ _ (blockK _ _ _); refine gk_past rfl ?_) | (show GC _ _ _ _ _ (.cond _ _ _) _; first | refine gc_yes (h1 := ?_) | refine gc_no (h1 := ?_))))
    refine go_is rfl (stp_ldK cels_pn (0, 0) (i := i) rfl (by exact Has.auto) rfl (by omega)) ?_
    unfold pnC
    (repeat (first | with_reducible (first | refine go_nil ?_ | refine gk_seq ?_ | refine gc_seq ?_ | refine gc_reg ?_ | refine gc_skip ?_ | refine gk_block ?_ | refine gc_block ?_ | refine gc_exit ?_ | refine gc_ret ?_ | refine gk_seqret ?_ | refine gk_seqexit ?_ | refine gk_blockret ?_ | refine gk_out ?_ | refine gk_loopret ?_ | refine gk_loopexit ?_) | (show GO _ _ _ _ _ (⟨some _, none, _⟩ :: _) _; first | refine go_op (hk := ?_) | (refine go_nw (hk := ?_); intro u; try simp only [List.length_cons, List.length_nil, List.nil_append, Nat.zero_add]) | (refine go_np (hk := ?_); intro id)) | (show GO _ _ _ _ _ (⟨none, none, _⟩ :: _) _; refine go_st (hk := ?_)) | (show GO _ _ _ _ _ (⟨_, some _, _⟩ :: _) _; first | refine go_in (hk := ?_) | refine go_out (hk := ?_) | refine go_void (hk := ?_)) | (show GK _ _ _ _ (blockK _ _ _); refine gk_past rfl ?_) | (show GC _ _ _ _ _ (.cond _ _ _) _; first | refine gc_yes (h1 := ?_) | refine gc_no (h1 := ?_))))
    revert id; intro i4
    refine go_new rfl (stp_slK cels_pn (l := i + 1) (h := L.length) rfl (by exact Sel.auto) (.inr ⟨_, rfl, rfl⟩) (.inl ⟨rfl, rfl⟩) (by omega)) ?_
    intro u
    have eL : ((L.drop (i + 1)).take (L.length - (i + 1))) = L.drop (i + 1) := by
      rw [List.take_of_length_le]; rw [List.length_drop]; omega
    rw [eL]
    (repeat (first | with_reducible (first | refine go_nil ?_ | refine gk_seq ?_ | refine gc_seq ?_ | refine gc_reg ?_ | refine gc_skip ?_ | refine gk_block ?_ | refine gc_block ?_ | refine gc_exit ?_ | refine gc_ret ?_ | refine gk_seqret ?_ | refine gk_seqexit ?_ | refine gk_blockret ?_ | refine gk_out ?_ | refine gk_loopret ?_ | refine gk_loopexit ?_) | (show GO _ _ _ _ _ (⟨some _, none, _⟩ :: _) _; first | refine go_op (hk := ?_) | (refine go_nw (hk := ?_); intro u; try simp only [List.length_cons, List.length_nil, List.nil_append, Nat.zero_add]) | (refine go_np (hk := ?_); intro id)) | (show GO _ _ _ _ _ (⟨none, none, _⟩ :: _) _; refine go_st (hk := ?_)) | (show GO _ _ _ _ _ (⟨_, some _, _⟩ :: _) _; first | refine go_in (hk := ?_) | refine go_out (hk := ?_) | refine go_void (hk := ?_)) | (show GK _ _ _ _ (blockK _ _ _); refine gk_past rfl ?_) | (show GC _ _ _ _ _ (.cond _ _ _) _; first | refine gc_yes (h1 := ?_) | refine gc_no (h1 := ?_))))
    refine gc_loop (γ := Nat × γ) (fun t => [(0, .yld yd), (1, .ptr i1 0), (4, .ptr i4 0), (7, w), (8, .int .i64 (L.length : Int)), (9, .int .i64 (i : Int)), (17, u), (18, .int .i64 ((L.length - (i + 1) : Nat) : Int)), (19, .int .i64 (t.1 : Int))]) (fun t => ⟨.cell, .ptr i4 0, 2, 1, [.int .i64 (nthP L i).1, .int .i64 (nthP L i).2]⟩ :: roP u (L.length - (i + 1)) (L.drop (i + 1)) :: bx1 i1 w :: roP w L.length L :: T i t.1 t.2) (fun t => t.1 ≤ L.length - (i + 1)) (fun t => L.length - (i + 1) - t.1) (0, z) (Nat.zero_le _) (hS := by refine Sub.cons (by exact Sel.auto) ?_; refine Sub.cons (by exact Sel.auto) ?_; refine Sub.cons (by exact Sel.auto) ?_; refine Sub.cons (by exact Sel.auto) ?_; exact sub_refl _) (hb := ?_)
    rintro ⟨k, z1⟩ hk1 I2 ν2 m2 hk2
    simp only at hk1 hk2 ⊢
    (repeat (first | with_reducible (first | refine go_nil ?_ | refine gk_seq ?_ | refine gc_seq ?_ | refine gc_reg ?_ | refine gc_skip ?_ | refine gk_block ?_ | refine gc_block ?_ | refine gc_exit ?_ | refine gc_ret ?_ | refine gk_seqret ?_ | refine gk_seqexit ?_ | refine gk_blockret ?_ | refine gk_out ?_ | refine gk_loopret ?_ | refine gk_loopexit ?_) | (show GO _ _ _ _ _ (⟨some _, none, _⟩ :: _) _; first | refine go_op (hk := ?_) | (refine go_nw (hk := ?_); intro u; try simp only [List.length_cons, List.length_nil, List.nil_append, Nat.zero_add]) | (refine go_np (hk := ?_); intro id)) | (show GO _ _ _ _ _ (⟨none, none, _⟩ :: _) _; refine go_st (hk := ?_)) | (show GO _ _ _ _ _ (⟨_, some _, _⟩ :: _) _; first | refine go_in (hk := ?_) | refine go_out (hk := ?_) | refine go_void (hk := ?_)) | (show GK _ _ _ _ (blockK _ _ _); refine gk_past rfl ?_) | (show GC _ _ _ _ _ (.cond _ _ _) _; first | refine gc_yes (h1 := ?_) | refine gc_no (h1 := ?_))))
    refine gc_cond rfl (fun h2 => ?_) (fun h2 => ?_)
    · (repeat (first | with_reducible (first | refine go_nil ?_ | refine gk_seq ?_ | refine gc_seq ?_ | refine gc_reg ?_ | refine gc_skip ?_ | refine gk_block ?_ | refine gc_block ?_ | refine gc_exit ?_ | refine gc_ret ?_ | refine gk_seqret ?_ | refine gk_seqexit ?_ | refine gk_blockret ?_ | refine gk_out ?_ | refine gk_loopret ?_ | refine gk_loopexit ?_) | (show GO _ _ _ _ _ (⟨some _, none, _⟩ :: _) _; first | refine go_op (hk := ?_) | (refine go_nw (hk := ?_); intro u; try simp only [List.length_cons, List.length_nil, List.nil_append, Nat.zero_add]) | (refine go_np (hk := ?_); intro id)) | (show GO _ _ _ _ _ (⟨none, none, _⟩ :: _) _; refine go_st (hk := ?_)) | (show GO _ _ _ _ _ (⟨_, some _, _⟩ :: _) _; first | refine go_in (hk := ?_) | refine go_out (hk := ?_) | refine go_void (hk := ?_)) | (show GK _ _ _ _ (blockK _ _ _); refine gk_past rfl ?_) | (show GC _ _ _ _ _ (.cond _ _ _) _; first | refine gc_yes (h1 := ?_) | refine gc_no (h1 := ?_))))
      refine go_is rfl (stp_ldK cels_pn (0, 0) (i := k) rfl (by exact Has.auto) (by rw [List.length_drop]) (by rw [List.length_drop]; omega)) ?_
      have eD : nthA (0, 0) (L.drop (i + 1)) k = nthP L (i + 1 + k) := by
        unfold nthP nthA
        rw [List.getD_eq_getElem?_getD, List.getD_eq_getElem?_getD, List.getElem?_drop]
      rw [eD]
      unfold pnC
      (repeat (first | with_reducible (first | refine go_nil ?_ | refine gk_seq ?_ | refine gc_seq ?_ | refine gc_reg ?_ | refine gc_skip ?_ | refine gk_block ?_ | refine gc_block ?_ | refine gc_exit ?_ | refine gc_ret ?_ | refine gk_seqret ?_ | refine gk_seqexit ?_ | refine gk_blockret ?_ | refine gk_out ?_ | refine gk_loopret ?_ | refine gk_loopexit ?_) | (show GO _ _ _ _ _ (⟨some _, none, _⟩ :: _) _; first | refine go_op (hk := ?_) | (refine go_nw (hk := ?_); intro u; try simp only [List.length_cons, List.length_nil, List.nil_append, Nat.zero_add]) | (refine go_np (hk := ?_); intro id)) | (show GO _ _ _ _ _ (⟨none, none, _⟩ :: _) _; refine go_st (hk := ?_)) | (show GO _ _ _ _ _ (⟨_, some _, _⟩ :: _) _; first | refine go_in (hk := ?_) | refine go_out (hk := ?_) | refine go_void (hk := ?_)) | (show GK _ _ _ _ (blockK _ _ _); refine gk_past rfl ?_) | (show GC _ _ _ _ _ (.cond _ _ _) _; first | refine gc_yes (h1 := ?_) | refine gc_no (h1 := ?_))))
      revert id; intro i6
      refine go_split 28 rfl (fun h3 => ?_) (fun h3 => ?_)
      · (repeat (first | with_reducible (first | refine go_nil ?_ | refine gk_seq ?_ | refine gc_seq ?_ | refine gc_reg ?_ | refine gc_skip ?_ | refine gk_block ?_ | refine gc_block ?_ | refine gc_exit ?_ | refine gc_ret ?_ | refine gk_seqret ?_ | refine gk_seqexit ?_ | refine gk_blockret ?_ | refine gk_out ?_ | refine gk_loopret ?_ | refine gk_loopexit ?_) | (show GO _ _ _ _ _ (⟨some _, none, _⟩ :: _) _; first | refine go_op (hk := ?_) | (refine go_nw (hk := ?_); intro u; try simp only [List.length_cons, List.length_nil, List.nil_append, Nat.zero_add]) | (refine go_np (hk := ?_); intro id)) | (show GO _ _ _ _ _ (⟨none, none, _⟩ :: _) _; refine go_st (hk := ?_)) | (show GO _ _ _ _ _ (⟨_, some _, _⟩ :: _) _; first | refine go_in (hk := ?_) | refine go_out (hk := ?_) | refine go_void (hk := ?_)) | (show GK _ _ _ _ (blockK _ _ _); refine gk_past rfl ?_) | (show GC _ _ _ _ _ (.cond _ _ _) _; first | refine gc_yes (h1 := ?_) | refine gc_no (h1 := ?_))))
        refine go_yieldE rfl rfl (S2 := fun z' => (bx1 i1 w :: roP w L.length L :: T i (k + 1) z') ++ [⟨.cell, .ptr i6 0, 2, 1, [.int .i64 (nthP L (i + 1 + k)).1, .int .i64 (nthP L (i + 1 + k)).2]⟩, ⟨.cell, .ptr i4 0, 2, 1, [.int .i64 (nthP L i).1, .int .i64 (nthP L i).2]⟩, roP u (L.length - (i + 1)) (L.drop (i + 1))]) (fun H hH => hy i k (by omega) h3 _ _ _ (hH.sub (sub_swap [_, _, _] _))) ?_
        intro z2
        (repeat (first | with_reducible (first | refine go_nil ?_ | refine gk_seq ?_ | refine gc_seq ?_ | refine gc_reg ?_ | refine gc_skip ?_ | refine gk_block ?_ | refine gc_block ?_ | refine gc_exit ?_ | refine gc_ret ?_ | refine gk_seqret ?_ | refine gk_seqexit ?_ | refine gk_blockret ?_ | refine gk_out ?_ | refine gk_loopret ?_ | refine gk_loopexit ?_) | (show GO _ _ _ _ _ (⟨some _, none, _⟩ :: _) _; first | refine go_op (hk := ?_) | (refine go_nw (hk := ?_); intro u; try simp only [List.length_cons, List.length_nil, List.nil_append, Nat.zero_add]) | (refine go_np (hk := ?_); intro id)) | (show GO _ _ _ _ _ (⟨none, none, _⟩ :: _) _; refine go_st (hk := ?_)) | (show GO _ _ _ _ _ (⟨_, some _, _⟩ :: _) _; first | refine go_in (hk := ?_) | refine go_out (hk := ?_) | refine go_void (hk := ?_)) | (show GK _ _ _ _ (blockK _ _ _); refine gk_past rfl ?_) | (show GC _ _ _ _ _ (.cond _ _ _) _; first | refine gc_yes (h1 := ?_) | refine gc_no (h1 := ?_))))
        rw [show (!true) = false from rfl]
        (repeat (first | with_reducible (first | refine go_nil ?_ | refine gk_seq ?_ | refine gc_seq ?_ | refine gc_reg ?_ | refine gc_skip ?_ | refine gk_block ?_ | refine gc_block ?_ | refine gc_exit ?_ | refine gc_ret ?_ | refine gk_seqret ?_ | refine gk_seqexit ?_ | refine gk_blockret ?_ | refine gk_out ?_ | refine gk_loopret ?_ | refine gk_loopexit ?_) | (show GO _ _ _ _ _ (⟨some _, none, _⟩ :: _) _; first | refine go_op (hk := ?_) | (refine go_nw (hk := ?_); intro u; try simp only [List.length_cons, List.length_nil, List.nil_append, Nat.zero_add]) | (refine go_np (hk := ?_); intro id)) | (show GO _ _ _ _ _ (⟨none, none, _⟩ :: _) _; refine go_st (hk := ?_)) | (show GO _ _ _ _ _ (⟨_, some _, _⟩ :: _) _; first | refine go_in (hk := ?_) | refine go_out (hk := ?_) | refine go_void (hk := ?_)) | (show GK _ _ _ _ (blockK _ _ _); refine gk_past rfl ?_) | (show GC _ _ _ _ _ (.cond _ _ _) _; first | refine gc_yes (h1 := ?_) | refine gc_no (h1 := ?_))))
        refine gk_next (hk2 (k + 1, z2) (by simp only; omega) (by simp only; omega)) (hs := sub_back _ _ [_, _])
      · (repeat (first | with_reducible (first | refine go_nil ?_ | refine gk_seq ?_ | refine gc_seq ?_ | refine gc_reg ?_ | refine gc_skip ?_ | refine gk_block ?_ | refine gc_block ?_ | refine gc_exit ?_ | refine gc_ret ?_ | refine gk_seqret ?_ | refine gk_seqexit ?_ | refine gk_blockret ?_ | refine gk_out ?_ | refine gk_loopret ?_ | refine gk_loopexit ?_) | (show GO _ _ _ _ _ (⟨some _, none, _⟩ :: _) _; first | refine go_op (hk := ?_) | (refine go_nw (hk := ?_); intro u; try simp only [List.length_cons, List.length_nil, List.nil_append, Nat.zero_add]) | (refine go_np (hk := ?_); intro id)) | (show GO _ _ _ _ _ (⟨none, none, _⟩ :: _) _; refine go_st (hk := ?_)) | (show GO _ _ _ _ _ (⟨_, some _, _⟩ :: _) _; first | refine go_in (hk := ?_) | refine go_out (hk := ?_) | refine go_void (hk := ?_)) | (show GK _ _ _ _ (blockK _ _ _); refine gk_past rfl ?_) | (show GC _ _ _ _ _ (.cond _ _ _) _; first | refine gc_yes (h1 := ?_) | refine gc_no (h1 := ?_))))
        have e := hT i k (by omega) (Decidable.not_not.1 h3)
        refine gk_next (hk2 (k + 1, z1) (by simp only; omega) (by simp only; omega)) (hs := by simp only [e]; exact sub_drop (sub_refl _))
    · have : k = L.length - (i + 1) := by omega
      subst this
      have e := h0 i (by omega)
      (repeat (first | with_reducible (first | refine go_nil ?_ | refine gk_seq ?_ | refine gc_seq ?_ | refine gc_reg ?_ | refine gc_skip ?_ | refine gk_block ?_ | refine gc_block ?_ | refine gc_exit ?_ | refine gc_ret ?_ | refine gk_seqret ?_ | refine gk_seqexit ?_ | refine gk_blockret ?_ | refine gk_out ?_ | refine gk_loopret ?_ | refine gk_loopexit ?_) | (show GO _ _ _ _ _ (⟨some _, none, _⟩ :: _) _; first | refine go_op (hk := ?_) | (refine go_nw (hk := ?_); intro u; try simp only [List.length_cons, List.length_nil, List.nil_append, Nat.zero_add]) | (refine go_np (hk := ?_); intro id)) | (show GO _ _ _ _ _ (⟨none, none, _⟩ :: _) _; refine go_st (hk := ?_)) | (show GO _ _ _ _ _ (⟨_, some _, _⟩ :: _) _; first | refine go_in (hk := ?_) | refine go_out (hk := ?_) | refine go_void (hk := ?_)) | (show GK _ _ _ _ (blockK _ _ _); refine gk_past rfl ?_) | (show GC _ _ _ _ _ (.cond _ _ _) _; first | refine gc_yes (h1 := ?_) | refine gc_no (h1 := ?_))))
      refine gk_next (hk (i + 1, z1) (by simp only; omega) (by simp only; omega)) (hs := by simp only [← e]; exact sub_drop (sub_drop (sub_refl _)))
  · have : i = L.length := by omega
    subst this
    (repeat (first | with_reducible (first | refine go_nil ?_ | refine gk_seq ?_ | refine gc_seq ?_ | refine gc_reg ?_ | refine gc_skip ?_ | refine gk_block ?_ | refine gc_block ?_ | refine gc_exit ?_ | refine gc_ret ?_ | refine gk_seqret ?_ | refine gk_seqexit ?_ | refine gk_blockret ?_ | refine gk_out ?_ | refine gk_loopret ?_ | refine gk_loopexit ?_) | (show GO _ _ _ _ _ (⟨some _, none, _⟩ :: _) _; first | refine go_op (hk := ?_) | (refine go_nw (hk := ?_); intro u; try simp only [List.length_cons, List.length_nil, List.nil_append, Nat.zero_add]) | (refine go_np (hk := ?_); intro id)) | (show GO _ _ _ _ _ (⟨none, none, _⟩ :: _) _; refine go_st (hk := ?_)) | (show GO _ _ _ _ _ (⟨_, some _, _⟩ :: _) _; first | refine go_in (hk := ?_) | refine go_out (hk := ?_) | refine go_void (hk := ?_)) | (show GK _ _ _ _ (blockK _ _ _); refine gk_past rfl ?_) | (show GC _ _ _ _ _ (.cond _ _ _) _; first | refine gc_yes (h1 := ?_) | refine gc_no (h1 := ?_))))
    exact gk_retn rfl fun H' hH => ⟨z, hH⟩

def catN {α : Type} (f : Nat → List α) : Nat → List α
  | 0 => []
  | n + 1 => catN f n ++ f n

theorem catN_congr {α : Type} {f g : Nat → List α} : ∀ {n : Nat}, (∀ i, i < n → f i = g i) → catN f n = catN g n
  | 0, _ => rfl
  | n + 1, h => by rw [catN, catN, catN_congr (fun i hi => h i (by omega)), h n (by omega)]

theorem catN_app {α : Type} (f g : Nat → List α) : ∀ n, (catN (fun i => f i ++ g i) n).Perm (catN f n ++ catN g n)
  | 0 => List.Perm.refl _
  | n + 1 => by
    have ih := catN_app f g n
    simp only [catN]
    refine (ih.append_right _).trans ?_
    rw [List.append_assoc, List.append_assoc]
    refine List.Perm.append_left _ ?_
    rw [← List.append_assoc, ← List.append_assoc]
    exact List.perm_append_comm.append_right _

theorem catN_perm {α : Type} {f g : Nat → List α} : ∀ {n : Nat}, (∀ i, i < n → (f i).Perm (g i)) → (catN f n).Perm (catN g n)
  | 0, _ => List.Perm.refl _
  | n + 1, h => (catN_perm (fun i hi => h i (by omega))).append (h n (by omega))

/-- all two, by the greater one and by the lesser one -/
theorem catN_tri {α : Type} (f : Nat → Nat → List α) : ∀ n, (catN (fun i => catN (f i) i) n).Perm (catN (fun i => catN (fun m => f (i + 1 + m) i) (n - (i + 1))) n)
  | 0 => List.Perm.refl _
  | n + 1 => by
    have ih := catN_tri f n
    rw [catN]
    refine (ih.append_right _).trans ?_
    have e : catN (fun i => catN (fun m => f (i + 1 + m) i) (n + 1 - (i + 1))) (n + 1) = catN (fun i => catN (fun m => f (i + 1 + m) i) (n - (i + 1)) ++ f n i) n := by
      rw [catN, show n + 1 - (n + 1) = 0 by omega, catN, List.append_nil]
      refine catN_congr fun i hi => ?_
      rw [show n + 1 - (i + 1) = (n - (i + 1)) + 1 by omega, catN, show i + 1 + (n - (i + 1)) = n by omega]
    rw [e]
    exact (catN_app _ _ n).symm

theorem catN_front {α : Type} (f : Nat → List α) : ∀ n, catN f (n + 1) = f 0 ++ catN (fun i => f (i + 1)) n
  | 0 => by simp [catN]
  | n + 1 => by rw [catN, catN_front f n, catN, List.append_assoc]

theorem catN_rev {α : Type} : ∀ (n : Nat) (f : Nat → List α), (catN f n).Perm (catN (fun i => f (n - 1 - i)) n)
  | 0, f => List.Perm.refl _
  | n + 1, f => by
    rw [catN_front, catN]
    refine List.perm_append_comm.trans (List.Perm.append ?_ (by rw [show n + 1 - 1 - n = 0 by omega]))
    refine (catN_rev n _).trans (List.Perm.of_eq (catN_congr fun i hi => ?_))
    show f (n - 1 - i + 1) = f (n + 1 - 1 - i)
    rw [show n - 1 - i + 1 = n + 1 - 1 - i by omega]
/- slopes by the lesser one -/

def sl1 (xs ys : List Int) (i k : Nat) : List Rat := if nth xs i ≠ nth xs k then [slR xs ys i k] else []

theorem slI_cat (xs ys : List Int) (i : Nat) : ∀ k, slI xs ys i k = catN (sl1 xs ys i) k
  | 0 => rfl
  | k + 1 => by
    rw [slI, catN, slI_cat xs ys i k, sl1]
    split <;> simp

theorem slS_cat (xs ys : List Int) : ∀ n, slS xs ys n = catN (fun i => catN (sl1 xs ys i) i) n
  | 0 => rfl
  | n + 1 => by rw [slS, catN, slS_cat xs ys n, slI_cat]

def szI (xs ys : List Int) (i : Nat) : Nat → List Rat := catN fun m => sl1 xs ys (i + 1 + m) i

def szT (xs ys : List Int) (n : Nat) : Nat → List Rat := catN fun i => szI xs ys i (n - (i + 1))

theorem sz_perm (xs ys : List Int) (n : Nat) : (szT xs ys n n).Perm (slS xs ys n) := by
  rw [slS_cat]; exact (catN_tri (sl1 xs ys) n).symm

theorem szI_len (xs ys : List Int) (i : Nat) : ∀ m, (szI xs ys i m).length ≤ m
  | 0 => Nat.le_refl _
  | m + 1 => by
    have := szI_len xs ys i m
    have h : (sl1 xs ys (i + 1 + m) i).length ≤ 1 := by unfold sl1; split <;> simp
    show (szI xs ys i m ++ sl1 xs ys (i + 1 + m) i).length ≤ m + 1
    rw [List.length_append]; omega

theorem szT_len (xs ys : List Int) (n : Nat) : ∀ i, (szT xs ys n i).length ≤ i * n
  | 0 => by simp [szT, catN]
  | i + 1 => by
    have h1 := szT_len xs ys n i
    have h2 := szI_len xs ys i (n - (i + 1))
    show (szT xs ys n i ++ szI xs ys i (n - (i + 1))).length ≤ (i + 1) * n
    rw [List.length_append, Nat.add_mul]; omega

theorem go_nilK {P : Program} {A : Heap} {X : List Nat} {E : List (Nat × AV)} {S : Sig} {l : List MI} {K : St → Prop} (es : Nat) (h : GO P A X E (⟨.rw, .nilSlice, es, 0, []⟩ :: S) l K) : GO P A X E S l K := ⟨fun s hf => h.g s ⟨hf.env, hf.ok.nil es⟩⟩

theorem slS_small {xs ys : List Int} (hp : Pts xs ys) {n : Nat} {q : Rat} (h : q ∈ slS xs ys n) : SmOk q := by
  obtain ⟨D, d, f⟩ := slS_fd hp h
  have := f.nd
  exact ⟨by omega, by omega⟩

abbrev slSig (i5 : Nat) (xs ys : List Int) (i m : Nat) (u : AV) : Sig := [bx1 i5 u, rwF u (szT xs ys xs.length i ++ szI xs ys i m).length (szT xs ys xs.length i ++ szI xs ys i m)]

theorem implSlopesOf_ok {H : Heap} {a b : AV} {xs ys : List Int} (ha : Ints H a xs) (hb : Ints H b ys) (hl : xs.length ≤ 1000000000) (hl' : ys.length ≤ 1000000000) :
    ACalls Try.prog fn_impl_SlopesOf [a, b] H fun r H' => Own H H' r 2 (slO xs ys).length (frs (slO xs ys)) ∧ Le H H' := by
  refine code_impl_SlopesOf.go [.roI a xs.length xs, .roI b ys.length ys] ⟨⟨rfl, ha⟩, ⟨rfl, hb⟩, trivial⟩ (by simp) ?_
  unfold mc_impl_SlopesOf
  (repeat (first | with_reducible (first | refine go_nil ?_ | refine gk_seq ?_ | refine gc_seq ?_ | refine gc_reg ?_ | refine gc_skip ?_ | refine gk_block ?_ | refine gc_block ?_ | refine gc_exit ?_ | refine gc_ret ?_ | refine gk_seqret ?_ | refine gk_seqexit ?_ | refine gk_blockret ?_ | refine gk_out ?_ | refine gk_loopret ?_ | refine gk_loopexit ?_ | refine gq_nil ?_ | refine gd_nil ?_ | refine gc_scope ?_ | refine gk_scope ?_ | refine gk_scoper ?_ | refine gk_scopee ?_) | (with_reducible refine gc_drq ?_; intro _) | (with_reducible first | (refine gc_drw (h := ?_); intro _) | (refine gc_drw2 (h := ?_); intro _)) | (show GO _ _ _ _ _ (⟨some _, none, .call _ _⟩ :: _) _; first | (show GO _ _ _ _ _ (⟨some _, none, .call fn_impl_ValidCloud _⟩ :: _) _; refine go_callp rfl code_impl_ValidCloud.callable (fun H hH => implValidCloud_ok (hH.ints (by exact Has.auto)) (hH.ints (by exact Has.auto)) (by omega) (by omega)) ?_)) | (show GO _ _ _ _ _ (⟨some _, none, _⟩ :: _) _; first | refine go_op (hk := ?_) | (refine go_nw (hk := ?_); intro u; try simp only [List.length_cons, List.length_nil, List.nil_append, Nat.zero_add]) | (refine go_np (hk := ?_); intro id)) | (show GQ _ _ _ _ _ _ _ (⟨some _, none, _⟩ :: _) _; first | refine gq_op (hk := ?_) | (refine gq_nw (hk := ?_); intro u; try simp only [List.length_cons, List.length_nil, List.nil_append, Nat.zero_add])) | (show GD _ _ _ _ _ _ _ (⟨some _, none, _⟩ :: _) _; first | refine gd_op (hk := ?_) | (refine gd_nw (hk := ?_); intro u; try simp only [List.length_cons, List.length_nil, List.nil_append, Nat.zero_add])) | (show GD2 _ _ _ _ _ _ _ _ _ _ _ _ _ _; first | refine gd2_nil rfl ?_ | refine gd2_op (hk := ?_) | (refine gd2_nw (hk := ?_); intro u; try simp only [List.length_cons, List.length_nil, List.nil_append, Nat.zero_add]) | refine gd2_l (hk := ?_) | refine gd2_lp (hk := ?_) | (refine gd2_newp (hk := ?_); intro id) | refine gd2_st (hk := ?_) | (refine gd2_bsl rfl rfl ?_; intro u; try simp only [List.length_cons, List.length_nil, List.nil_append, Nat.zero_add]) | (refine gd2_a (hk := ?_); intro u; try simp only [List.length_cons, List.length_nil, List.nil_append, Nat.zero_add])) | (show GO _ _ _ _ _ (⟨none, none, _⟩ :: _) _; refine go_st (hk := ?_)) | (show GD _ _ _ _ _ _ _ (⟨none, none, _⟩ :: _) _; refine gd_st (hk := ?_)) | (show GO _ _ _ _ _ (⟨_, some _, _⟩ :: _) _; first | refine go_in (hk := ?_) | refine go_out (hk := ?_) | refine go_void (hk := ?_)) | (show GQ _ _ _ _ _ _ _ (⟨_, some _, _⟩ :: _) _; first | refine gq_in (hk := ?_) | refine gq_out (hk := ?_) | refine gq_void (hk := ?_)) | (show GK _ _ _ _ (blockK _ _ _); refine gk_past rfl ?_) | (show GC _ _ _ _ _ (.cond _ _ _) _; first | refine gc_yes (h1 := ?_) | refine gc_no (h1 := ?_))))
  refine gc_cond rfl (fun h => ?_) (fun h => ?_)
  · (repeat (first | with_reducible (first | refine go_nil ?_ | refine gk_seq ?_ | refine gc_seq ?_ | refine gc_reg ?_ | refine gc_skip ?_ | refine gk_block ?_ | refine gc_block ?_ | refine gc_exit ?_ | refine gc_ret ?_ | refine gk_seqret ?_ | refine gk_seqexit ?_ | refine gk_blockret ?_ | refine gk_out ?_ | refine gk_loopret ?_ | refine gk_loopexit ?_ | refine gq_nil ?_ | refine gd_nil ?_ | refine gc_scope ?_ | refine gk_scope ?_ | refine gk_scoper ?_ | refine gk_scopee ?_) | (with_reducible refine gc_drq ?_; intro _) | (with_reducible first | (refine gc_drw (h := ?_); intro _) | (refine gc_drw2 (h := ?_); intro _)) | (show GO _ _ _ _ _ (⟨some _, none, .call _ _⟩ :: _) _; first | (show GO _ _ _ _ _ (⟨some _, none, .call fn_impl_ValidCloud _⟩ :: _) _; refine go_callp rfl code_impl_ValidCloud.callable (fun H hH => implValidCloud_ok (hH.ints (by exact Has.auto)) (hH.ints (by exact Has.auto)) (by omega) (by omega)) ?_)) | (show GO _ _ _ _ _ (⟨some _, none, _⟩ :: _) _; first | refine go_op (hk := ?_) | (refine go_nw (hk := ?_); intro u; try simp only [List.length_cons, List.length_nil, List.nil_append, Nat.zero_add]) | (refine go_np (hk := ?_); intro id)) | (show GQ _ _ _ _ _ _ _ (⟨some _, none, _⟩ :: _) _; first | refine gq_op (hk := ?_) | (refine gq_nw (hk := ?_); intro u; try simp only [List.length_cons, List.length_nil, List.nil_append, Nat.zero_add])) | (show GD _ _ _ _ _ _ _ (⟨some _, none, _⟩ :: _) _; first | refine gd_op (hk := ?_) | (refine gd_nw (hk := ?_); intro u; try simp only [List.length_cons, List.length_nil, List.nil_append, Nat.zero_add])) | (show GD2 _ _ _ _ _ _ _ _ _ _ _ _ _ _; first | refine gd2_nil rfl ?_ | refine gd2_op (hk := ?_) | (refine gd2_nw (hk := ?_); intro u; try simp only [List.length_cons, List.length_nil, List.nil_append, Nat.zero_add]) | refine gd2_l (hk := ?_) | refine gd2_lp (hk := ?_) | (refine gd2_newp (hk := ?_); intro id) | refine gd2_st (hk := ?_) | (refine gd2_bsl rfl rfl ?_; intro u; try simp only [List.length_cons, List.length_nil, List.nil_append, Nat.zero_add]) | (refine gd2_a (hk := ?_); intro u; try simp only [List.length_cons, List.length_nil, List.nil_append, Nat.zero_add])) | (show GO _ _ _ _ _ (⟨none, none, _⟩ :: _) _; refine go_st (hk := ?_)) | (show GD _ _ _ _ _ _ _ (⟨none, none, _⟩ :: _) _; refine gd_st (hk := ?_)) | (show GO _ _ _ _ _ (⟨_, some _, _⟩ :: _) _; first | refine go_in (hk := ?_) | refine go_out (hk := ?_) | refine go_void (hk := ?_)) | (show GQ _ _ _ _ _ _ _ (⟨_, some _, _⟩ :: _) _; first | refine gq_in (hk := ?_) | refine gq_out (hk := ?_) | refine gq_void (hk := ?_)) | (show GK _ _ _ _ (blockK _ _ _); refine gk_past rfl ?_) | (show GC _ _ _ _ _ (.cond _ _ _) _; first | refine gc_yes (h1 := ?_) | refine gc_no (h1 := ?_))))
    refine gk_ret rfl fun H' hH => ⟨?_, hH.leE⟩
    unfold slO; rw [if_neg h]
    exact Own.nil _ _ _
  have hc : Cloud xs ys := Decidable.not_not.1 h
  have hp := hc.1
  have h7 := hc.1.2.2
  have hlen := hc.1.2.1
  have hpos := hc.slopes
  have hperm := sz_perm xs ys xs.length
  have eo : slO xs ys = sortR (szT xs ys xs.length xs.length) := by
    unfold slO; rw [if_pos hc, sortR_congr hperm]
  have hsl := szT_len xs ys xs.length xs.length
  have hii : xs.length * xs.length ≤ 7 * 7 := Nat.mul_le_mul (by omega) (by omega)
  have hpos2 : 0 < (szT xs ys xs.length xs.length).length := by rw [hperm.length_eq]; exact hpos
  rw [eo, sortR_len]
  (repeat (first | with_reducible (first | refine go_nil ?_ | refine gk_seq ?_ | refine gc_seq ?_ | refine gc_reg ?_ | refine gc_skip ?_ | refine gk_block ?_ | refine gc_block ?_ | refine gc_exit ?_ | refine gc_ret ?_ | refine gk_seqret ?_ | refine gk_seqexit ?_ | refine gk_blockret ?_ | refine gk_out ?_ | refine gk_loopret ?_ | refine gk_loopexit ?_ | refine gq_nil ?_ | refine gd_nil ?_ | refine gc_scope ?_ | refine gk_scope ?_ | refine gk_scoper ?_ | refine gk_scopee ?_) | (with_reducible refine gc_drq ?_; intro _) | (with_reducible first | (refine gc_drw (h := ?_); intro _) | (refine gc_drw2 (h := ?_); intro _)) | (show GO _ _ _ _ _ (⟨some _, none, .call _ _⟩ :: _) _; first | (show GO _ _ _ _ _ (⟨some _, none, .call fn_impl_ValidCloud _⟩ :: _) _; refine go_callp rfl code_impl_ValidCloud.callable (fun H hH => implValidCloud_ok (hH.ints (by exact Has.auto)) (hH.ints (by exact Has.auto)) (by omega) (by omega)) ?_)) | (show GO _ _ _ _ _ (⟨some _, none, _⟩ :: _) _; first | refine go_op (hk := ?_) | (refine go_nw (hk := ?_); intro u; try simp only [List.length_cons, List.length_nil, List.nil_append, Nat.zero_add]) | (refine go_np (hk := ?_); intro id)) | (show GQ _ _ _ _ _ _ _ (⟨some _, none, _⟩ :: _) _; first | refine gq_op (hk := ?_) | (refine gq_nw (hk := ?_); intro u; try simp only [List.length_cons, List.length_nil, List.nil_append, Nat.zero_add])) | (show GD _ _ _ _ _ _ _ (⟨some _, none, _⟩ :: _) _; first | refine gd_op (hk := ?_) | (refine gd_nw (hk := ?_); intro u; try simp only [List.length_cons, List.length_nil, List.nil_append, Nat.zero_add])) | (show GD2 _ _ _ _ _ _ _ _ _ _ _ _ _ _; first | refine gd2_nil rfl ?_ | refine gd2_op (hk := ?_) | (refine gd2_nw (hk := ?_); intro u; try simp only [List.length_cons, List.length_nil, List.nil_append, Nat.zero_add]) | refine gd2_l (hk := ?_) | refine gd2_lp (hk := ?_) | (refine gd2_newp (hk := ?_); intro id) | refine gd2_st (hk := ?_) | (refine gd2_bsl rfl rfl ?_; intro u; try simp only [List.length_cons, List.length_nil, List.nil_append, Nat.zero_add]) | (refine gd2_a (hk := ?_); intro u; try simp only [List.length_cons, List.length_nil, List.nil_append, Nat.zero_add])) | (show GO _ _ _ _ _ (⟨none, none, _⟩ :: _) _; refine go_st (hk := ?_)) | (show GD _ _ _ _ _ _ _ (⟨none, none, _⟩ :: _) _; refine gd_st (hk := ?_)) | (show GO _ _ _ _ _ (⟨_, some _, _⟩ :: _) _; first | refine go_in (hk := ?_) | refine go_out (hk := ?_) | refine go_void (hk := ?_)) | (show GQ _ _ _ _ _ _ _ (⟨_, some _, _⟩ :: _) _; first | refine gq_in (hk := ?_) | refine gq_out (hk := ?_) | refine gq_void (hk := ?_)) | (show GK _ _ _ _ (blockK _ _ _); refine gk_past rfl ?_) | (show GC _ _ _ _ _ (.cond _ _ _) _; first | refine gc_yes (h1 := ?_) | refine gc_no (h1 := ?_))))
  revert id; intro i5
  refine go_calln rfl code_impl_pointsOf.callable (fun H hH => pointsOf_ok (hH.ints (by exact Has.auto)) (hH.ints (by exact Has.auto)) hlen (by omega)) ?_
  intro w
  refine go_freeze (v := w) (by exact Sel.auto) ?_
  refine go_nilK 2 ?_
  refine go_callg rfl code_impl_sideBySide.callable (fun H hH => sideBySide_ok hH (w := w) (by exact Has.auto)) ?_
  intro g hg
  (repeat (first | with_reducible (first | refine go_nil ?_ | refine gk_seq ?_ | refine gc_seq ?_ | refine gc_reg ?_ | refine gc_skip ?_ | refine gk_block ?_ | refine gc_block ?_ | refine gc_exit ?_ | refine gc_ret ?_ | refine gk_seqret ?_ | refine gk_seqexit ?_ | refine gk_blockret ?_ | refine gk_out ?_ | refine gk_loopret ?_ | refine gk_loopexit ?_ | refine gq_nil ?_ | refine gd_nil ?_ | refine gc_scope ?_ | refine gk_scope ?_ | refine gk_scoper ?_ | refine gk_scopee ?_) | (with_reducible refine gc_drq ?_; intro _) | (with_reducible first | (refine gc_drw (h := ?_); intro _) | (refine gc_drw2 (h := ?_); intro _)) | (show GO _ _ _ _ _ (⟨some _, none, .call _ _⟩ :: _) _; first | (show GO _ _ _ _ _ (⟨some _, none, .call fn_impl_ValidCloud _⟩ :: _) _; refine go_callp rfl code_impl_ValidCloud.callable (fun H hH => implValidCloud_ok (hH.ints (by exact Has.auto)) (hH.ints (by exact Has.auto)) (by omega) (by omega)) ?_)) | (show GO _ _ _ _ _ (⟨some _, none, _⟩ :: _) _; first | refine go_op (hk := ?_) | (refine go_nw (hk := ?_); intro u; try simp only [List.length_cons, List.length_nil, List.nil_append, Nat.zero_add]) | (refine go_np (hk := ?_); intro id)) | (show GQ _ _ _ _ _ _ _ (⟨some _, none, _⟩ :: _) _; first | refine gq_op (hk := ?_) | (refine gq_nw (hk := ?_); intro u; try simp only [List.length_cons, List.length_nil, List.nil_append, Nat.zero_add])) | (show GD _ _ _ _ _ _ _ (⟨some _, none, _⟩ :: _) _; first | refine gd_op (hk := ?_) | (refine gd_nw (hk := ?_); intro u; try simp only [List.length_cons, List.length_nil, List.nil_append, Nat.zero_add])) | (show GD2 _ _ _ _ _ _ _ _ _ _ _ _ _ _; first | refine gd2_nil rfl ?_ | refine gd2_op (hk := ?_) | (refine gd2_nw (hk := ?_); intro u; try simp only [List.length_cons, List.length_nil, List.nil_append, Nat.zero_add]) | refine gd2_l (hk := ?_) | refine gd2_lp (hk := ?_) | (refine gd2_newp (hk := ?_); intro id) | refine gd2_st (hk := ?_) | (refine gd2_bsl rfl rfl ?_; intro u; try simp only [List.length_cons, List.length_nil, List.nil_append, Nat.zero_add]) | (refine gd2_a (hk := ?_); intro u; try simp only [List.length_cons, List.length_nil, List.nil_append, Nat.zero_add])) | (show GO _ _ _ _ _ (⟨none, none, _⟩ :: _) _; refine go_st (hk := ?_)) | (show GD _ _ _ _ _ _ _ (⟨none, none, _⟩ :: _) _; refine gd_st (hk := ?_)) | (show GO _ _ _ _ _ (⟨_, some _, _⟩ :: _) _; first | refine go_in (hk := ?_) | refine go_out (hk := ?_) | refine go_void (hk := ?_)) | (show GQ _ _ _ _ _ _ _ (⟨_, some _, _⟩ :: _) _; first | refine gq_in (hk := ?_) | refine gq_out (hk := ?_) | refine gq_void (hk := ?_)) | (show GK _ _ _ _ (blockK _ _ _); refine gk_past rfl ?_) | (show GC _ _ _ _ _ (.cond _ _ _) _; first | refine gc_yes (h1 := ?_) | refine gc_no (h1 := ?_))))
  refine gc_rfuncE (ι := Nat × Nat) (γ := AV) (f := fn_impl_sideBySide_1) (caps := [.ptr g 0]) (fun t u => bx1 g w :: roP w xs.length (ptL xs ys) :: slSig i5 xs ys t.1 t.2 u) (fun s t vs => ∃ i m, s = (i, m) ∧ t = (i, m + 1) ∧ i + 1 + m < xs.length ∧ (nthP (ptL xs ys) i).1 ≠ (nthP (ptL xs ys) (i + 1 + m)).1 ∧ vs = [pnV (nthP (ptL xs ys) i), pnV (nthP (ptL xs ys) (i + 1 + m))]) (0, 0) (xs.length, 0) .nilSlice rfl code_impl_sideBySide_1.callable (by exact Sub.auto) ?_ ?_ ?_
  · intro A' yd H hy hS0
    refine sideBySide1_ok (L := ptL xs ys) (ptL_len _ _) (by omega) (slSig i5 xs ys) .nilSlice (fun i hi => ?_) (fun i m hi he => ?_) (fun i m hi hne F z H' hH' => hy (i, m) (i, m + 1) _ ⟨i, m, rfl, rfl, hi, hne, rfl⟩ F z H' hH') hS0
    · funext u
      unfold slSig
      rw [show szT xs ys xs.length (i + 1) ++ szI xs ys (i + 1) 0 = szT xs ys xs.length i ++ szI xs ys i (xs.length - (i + 1)) from List.append_nil _]
    · funext u
      unfold slSig
      rw [ptL_nth (by omega), ptL_nth (by omega)] at he
      rw [show szI xs ys i (m + 1) = szI xs ys i m from by
        show szI xs ys i m ++ sl1 xs ys (i + 1 + m) i = _
        rw [sl1, if_neg (fun h => h he.symm), List.append_nil]]
  · rintro s t vs ⟨i, m, rfl, rfl, hi, hne, rfl⟩
    refine ⟨rfl, fun F u ob1 ob2 Q1 Q2 g1 g2 => ?_⟩
    rw [ptL_nth (by omega), ptL_nth (by omega)] at hne
    rw [ptL_nth (by omega), ptL_nth (by omega)]
    simp only at hne
    have b1 := szT_len xs ys xs.length i
    have b2 := szI_len xs ys i m
    have b3 : i * xs.length ≤ 7 * 7 := Nat.mul_le_mul (by omega) (by omega)
    have el : szT xs ys xs.length i ++ szI xs ys i (m + 1) = szT xs ys xs.length i ++ szI xs ys i m ++ [slR xs ys (i + 1 + m) i] := by
      show szT xs ys xs.length i ++ (szI xs ys i m ++ sl1 xs ys (i + 1 + m) i) = _
      rw [sl1, if_pos (fun e => hne e.symm), List.append_assoc]
    simp only [slSig, List.cons_append, List.nil_append] at g2 ⊢
    (repeat (first | with_reducible (first | refine go_nil ?_ | refine gk_seq ?_ | refine gc_seq ?_ | refine gc_reg ?_ | refine gc_skip ?_ | refine gk_block ?_ | refine gc_block ?_ | refine gc_exit ?_ | refine gc_ret ?_ | refine gk_seqret ?_ | refine gk_seqexit ?_ | refine gk_blockret ?_ | refine gk_out ?_ | refine gk_loopret ?_ | refine gk_loopexit ?_ | refine gq_nil ?_ | refine gd_nil ?_ | refine gc_scope ?_ | refine gk_scope ?_ | refine gk_scoper ?_ | refine gk_scopee ?_) | (with_reducible refine gc_drq ?_; intro _) | (with_reducible first | (refine gc_drw (h := ?_); intro _) | (refine gc_drw2 (h := ?_); intro _)) | (show GO _ _ _ _ _ (⟨some _, none, .call _ _⟩ :: _) _; first | (show GO _ _ _ _ _ (⟨some _, none, .call fn_impl_ValidCloud _⟩ :: _) _; refine go_callp rfl code_impl_ValidCloud.callable (fun H hH => implValidCloud_ok (hH.ints (by exact Has.auto)) (hH.ints (by exact Has.auto)) (by omega) (by omega)) ?_)) | (show GO _ _ _ _ _ (⟨some _, none, _⟩ :: _) _; first | refine go_op (hk := ?_) | (refine go_nw (hk := ?_); intro u; try simp only [List.length_cons, List.length_nil, List.nil_append, Nat.zero_add]) | (refine go_np (hk := ?_); intro id)) | (show GQ _ _ _ _ _ _ _ (⟨some _, none, _⟩ :: _) _; first | refine gq_op (hk := ?_) | (refine gq_nw (hk := ?_); intro u; try simp only [List.length_cons, List.length_nil, List.nil_append, Nat.zero_add])) | (show GD _ _ _ _ _ _ _ (⟨some _, none, _⟩ :: _) _; first | refine gd_op (hk := ?_) | (refine gd_nw (hk := ?_); intro u; try simp only [List.length_cons, List.length_nil, List.nil_append, Nat.zero_add])) | (show GD2 _ _ _ _ _ _ _ _ _ _ _ _ _ _; first | refine gd2_nil rfl ?_ | refine gd2_op (hk := ?_) | (refine gd2_nw (hk := ?_); intro u; try simp only [List.length_cons, List.length_nil, List.nil_append, Nat.zero_add]) | refine gd2_l (hk := ?_) | refine gd2_lp (hk := ?_) | (refine gd2_newp (hk := ?_); intro id) | refine gd2_st (hk := ?_) | (refine gd2_bsl rfl rfl ?_; intro u; try simp only [List.length_cons, List.length_nil, List.nil_append, Nat.zero_add]) | (refine gd2_a (hk := ?_); intro u; try simp only [List.length_cons, List.length_nil, List.nil_append, Nat.zero_add])) | (show GO _ _ _ _ _ (⟨none, none, _⟩ :: _) _; refine go_st (hk := ?_)) | (show GD _ _ _ _ _ _ _ (⟨none, none, _⟩ :: _) _; refine gd_st (hk := ?_)) | (show GO _ _ _ _ _ (⟨_, some _, _⟩ :: _) _; first | refine go_in (hk := ?_) | refine go_out (hk := ?_) | refine go_void (hk := ?_)) | (show GQ _ _ _ _ _ _ _ (⟨_, some _, _⟩ :: _) _; first | refine gq_in (hk := ?_) | refine gq_out (hk := ?_) | refine gq_void (hk := ?_)) | (show GK _ _ _ _ (blockK _ _ _); refine gk_past rfl ?_) | (show GC _ _ _ _ _ (.cond _ _ _) _; first | refine gc_yes (h1 := ?_) | refine gc_no (h1 := ?_))))
    rename_i i6
    revert id; intro i7
    refine g1 _ _ ?_
    (repeat (first | with_reducible (first | refine go_nil ?_ | refine gk_seq ?_ | refine gc_seq ?_ | refine gc_reg ?_ | refine gc_skip ?_ | refine gk_block ?_ | refine gc_block ?_ | refine gc_exit ?_ | refine gc_ret ?_ | refine gk_seqret ?_ | refine gk_seqexit ?_ | refine gk_blockret ?_ | refine gk_out ?_ | refine gk_loopret ?_ | refine gk_loopexit ?_ | refine gq_nil ?_ | refine gd_nil ?_ | refine gc_scope ?_ | refine gk_scope ?_ | refine gk_scoper ?_ | refine gk_scopee ?_) | (with_reducible refine gc_drq ?_; intro _) | (with_reducible first | (refine gc_drw (h := ?_); intro _) | (refine gc_drw2 (h := ?_); intro _)) | (show GO _ _ _ _ _ (⟨some _, none, .call _ _⟩ :: _) _; first | (show GO _ _ _ _ _ (⟨some _, none, .call fn_impl_ValidCloud _⟩ :: _) _; refine go_callp rfl code_impl_ValidCloud.callable (fun H hH => implValidCloud_ok (hH.ints (by exact Has.auto)) (hH.ints (by exact Has.auto)) (by omega) (by omega)) ?_)) | (show GO _ _ _ _ _ (⟨some _, none, _⟩ :: _) _; first | refine go_op (hk := ?_) | (refine go_nw (hk := ?_); intro u; try simp only [List.length_cons, List.length_nil, List.nil_append, Nat.zero_add]) | (refine go_np (hk := ?_); intro id)) | (show GQ _ _ _ _ _ _ _ (⟨some _, none, _⟩ :: _) _; first | refine gq_op (hk := ?_) | (refine gq_nw (hk := ?_); intro u; try simp only [List.length_cons, List.length_nil, List.nil_append, Nat.zero_add])) | (show GD _ _ _ _ _ _ _ (⟨some _, none, _⟩ :: _) _; first | refine gd_op (hk := ?_) | (refine gd_nw (hk := ?_); intro u; try simp only [List.length_cons, List.length_nil, List.nil_append, Nat.zero_add])) | (show GD2 _ _ _ _ _ _ _ _ _ _ _ _ _ _; first | refine gd2_nil rfl ?_ | refine gd2_op (hk := ?_) | (refine gd2_nw (hk := ?_); intro u; try simp only [List.length_cons, List.length_nil, List.nil_append, Nat.zero_add]) | refine gd2_l (hk := ?_) | refine gd2_lp (hk := ?_) | (refine gd2_newp (hk := ?_); intro id) | refine gd2_st (hk := ?_) | (refine gd2_bsl rfl rfl ?_; intro u; try simp only [List.length_cons, List.length_nil, List.nil_append, Nat.zero_add]) | (refine gd2_a (hk := ?_); intro u; try simp only [List.length_cons, List.length_nil, List.nil_append, Nat.zero_add])) | (show GO _ _ _ _ _ (⟨none, none, _⟩ :: _) _; refine go_st (hk := ?_)) | (show GD _ _ _ _ _ _ _ (⟨none, none, _⟩ :: _) _; refine gd_st (hk := ?_)) | (show GO _ _ _ _ _ (⟨_, some _, _⟩ :: _) _; first | refine go_in (hk := ?_) | refine go_out (hk := ?_) | refine go_void (hk := ?_)) | (show GQ _ _ _ _ _ _ _ (⟨_, some _, _⟩ :: _) _; first | refine gq_in (hk := ?_) | refine gq_out (hk := ?_) | refine gq_void (hk := ?_)) | (show GK _ _ _ _ (blockK _ _ _); refine gk_past rfl ?_) | (show GC _ _ _ _ _ (.cond _ _ _) _; first | refine gc_yes (h1 := ?_) | refine gc_no (h1 := ?_))))
    refine gc_drw2q (qtTab [(fn_impl_through, dThrough)]) (fun H => qtTab_cons (dThrough_ok H) qtTab_nil) (fun base => ?_)
    (repeat (first | with_reducible (first | refine go_nil ?_ | refine gk_seq ?_ | refine gc_seq ?_ | refine gc_reg ?_ | refine gc_skip ?_ | refine gk_block ?_ | refine gc_block ?_ | refine gc_exit ?_ | refine gc_ret ?_ | refine gk_seqret ?_ | refine gk_seqexit ?_ | refine gk_blockret ?_ | refine gk_out ?_ | refine gk_loopret ?_ | refine gk_loopexit ?_ | refine gq_nil ?_ | refine gd_nil ?_ | refine gc_scope ?_ | refine gk_scope ?_ | refine gk_scoper ?_ | refine gk_scopee ?_) | (with_reducible refine gc_drq ?_; intro _) | (with_reducible first | (refine gc_drw (h := ?_); intro _) | (refine gc_drw2 (h := ?_); intro _)) | (show GO _ _ _ _ _ (⟨some _, none, .call _ _⟩ :: _) _; first | (show GO _ _ _ _ _ (⟨some _, none, .call fn_impl_ValidCloud _⟩ :: _) _; refine go_callp rfl code_impl_ValidCloud.callable (fun H hH => implValidCloud_ok (hH.ints (by exact Has.auto)) (hH.ints (by exact Has.auto)) (by omega) (by omega)) ?_)) | (show GO _ _ _ _ _ (⟨some _, none, _⟩ :: _) _; first | refine go_op (hk := ?_) | (refine go_nw (hk := ?_); intro u; try simp only [List.length_cons, List.length_nil, List.nil_append, Nat.zero_add]) | (refine go_np (hk := ?_); intro id)) | (show GQ _ _ _ _ _ _ _ (⟨some _, none, _⟩ :: _) _; first | refine gq_op (hk := ?_) | (refine gq_nw (hk := ?_); intro u; try simp only [List.length_cons, List.length_nil, List.nil_append, Nat.zero_add])) | (show GD _ _ _ _ _ _ _ (⟨some _, none, _⟩ :: _) _; first | refine gd_op (hk := ?_) | (refine gd_nw (hk := ?_); intro u; try simp only [List.length_cons, List.length_nil, List.nil_append, Nat.zero_add])) | (show GD2 _ _ _ _ _ _ _ _ _ _ _ _ _ _; first | refine gd2_nil rfl ?_ | refine gd2_op (hk := ?_) | (refine gd2_nw (hk := ?_); intro u; try simp only [List.length_cons, List.length_nil, List.nil_append, Nat.zero_add]) | refine gd2_l (hk := ?_) | refine gd2_lp (hk := ?_) | (refine gd2_newp (hk := ?_); intro id) | refine gd2_st (hk := ?_) | (refine gd2_bsl rfl rfl ?_; intro u; try simp only [List.length_cons, List.length_nil, List.nil_append, Nat.zero_add]) | (refine gd2_a (hk := ?_); intro u; try simp only [List.length_cons, List.length_nil, List.nil_append, Nat.zero_add])) | (show GO _ _ _ _ _ (⟨none, none, _⟩ :: _) _; refine go_st (hk := ?_)) | (show GD _ _ _ _ _ _ _ (⟨none, none, _⟩ :: _) _; refine gd_st (hk := ?_)) | (show GO _ _ _ _ _ (⟨_, some _, _⟩ :: _) _; first | refine go_in (hk := ?_) | refine go_out (hk := ?_) | refine go_void (hk := ?_)) | (show GQ _ _ _ _ _ _ _ (⟨_, some _, _⟩ :: _) _; first | refine gq_in (hk := ?_) | refine gq_out (hk := ?_) | refine gq_void (hk := ?_)) | (show GK _ _ _ _ (blockK _ _ _); refine gk_past rfl ?_) | (show GC _ _ _ _ _ (.cond _ _ _) _; first | refine gc_yes (h1 := ?_) | refine gc_no (h1 := ?_))))
    refine gd2_call rfl (dThrough_is (p := (nth xs i, nth ys i)) (q := (nth xs (i + 1 + m), nth ys (i + 1 + m))) (pts12 hp (by omega)) (pts12 hp (by omega)) hne) ?_
    refine gd2_is (v := frV (slR xs ys (i + 1 + m) i)) rfl (stp_fld (cs := [_, _, _, _]) rfl (by simp) (by exact rfl)) ?_
    refine gd2_bslg (stp_bslF (q := slR xs ys (i + 1 + m) i) rfl) ?_
    intro u1
    (repeat (first | with_reducible (first | refine go_nil ?_ | refine gk_seq ?_ | refine gc_seq ?_ | refine gc_reg ?_ | refine gc_skip ?_ | refine gk_block ?_ | refine gc_block ?_ | refine gc_exit ?_ | refine gc_ret ?_ | refine gk_seqret ?_ | refine gk_seqexit ?_ | refine gk_blockret ?_ | refine gk_out ?_ | refine gk_loopret ?_ | refine gk_loopexit ?_ | refine gq_nil ?_ | refine gd_nil ?_ | refine gc_scope ?_ | refine gk_scope ?_ | refine gk_scoper ?_ | refine gk_scopee ?_) | (with_reducible refine gc_drq ?_; intro _) | (with_reducible first | (refine gc_drw (h := ?_); intro _) | (refine gc_drw2 (h := ?_); intro _)) | (show GO _ _ _ _ _ (⟨some _, none, .call _ _⟩ :: _) _; first | (show GO _ _ _ _ _ (⟨some _, none, .call fn_impl_ValidCloud _⟩ :: _) _; refine go_callp rfl code_impl_ValidCloud.callable (fun H hH => implValidCloud_ok (hH.ints (by exact Has.auto)) (hH.ints (by exact Has.auto)) (by omega) (by omega)) ?_)) | (show GO _ _ _ _ _ (⟨some _, none, _⟩ :: _) _; first | refine go_op (hk := ?_) | (refine go_nw (hk := ?_); intro u; try simp only [List.length_cons, List.length_nil, List.nil_append, Nat.zero_add]) | (refine go_np (hk := ?_); intro id)) | (show GQ _ _ _ _ _ _ _ (⟨some _, none, _⟩ :: _) _; first | refine gq_op (hk := ?_) | (refine gq_nw (hk := ?_); intro u; try simp only [List.length_cons, List.length_nil, List.nil_append, Nat.zero_add])) | (show GD _ _ _ _ _ _ _ (⟨some _, none, _⟩ :: _) _; first | refine gd_op (hk := ?_) | (refine gd_nw (hk := ?_); intro u; try simp only [List.length_cons, List.length_nil, List.nil_append, Nat.zero_add])) | (show GD2 _ _ _ _ _ _ _ _ _ _ _ _ _ _; first | refine gd2_nil rfl ?_ | refine gd2_op (hk := ?_) | (refine gd2_nw (hk := ?_); intro u; try simp only [List.length_cons, List.length_nil, List.nil_append, Nat.zero_add]) | refine gd2_l (hk := ?_) | refine gd2_lp (hk := ?_) | (refine gd2_newp (hk := ?_); intro id) | refine gd2_st (hk := ?_) | (refine gd2_bsl rfl rfl ?_; intro u; try simp only [List.length_cons, List.length_nil, List.nil_append, Nat.zero_add]) | (refine gd2_a (hk := ?_); intro u; try simp only [List.length_cons, List.length_nil, List.nil_append, Nat.zero_add])) | (show GO _ _ _ _ _ (⟨none, none, _⟩ :: _) _; refine go_st (hk := ?_)) | (show GD _ _ _ _ _ _ _ (⟨none, none, _⟩ :: _) _; refine gd_st (hk := ?_)) | (show GO _ _ _ _ _ (⟨_, some _, _⟩ :: _) _; first | refine go_in (hk := ?_) | refine go_out (hk := ?_) | refine go_void (hk := ?_)) | (show GQ _ _ _ _ _ _ _ (⟨_, some _, _⟩ :: _) _; first | refine gq_in (hk := ?_) | refine gq_out (hk := ?_) | refine gq_void (hk := ?_)) | (show GK _ _ _ _ (blockK _ _ _); refine gk_past rfl ?_) | (show GC _ _ _ _ _ (.cond _ _ _) _; first | refine gc_yes (h1 := ?_) | refine gc_no (h1 := ?_))))
    refine go_new rfl (stp_appF (M := [slR xs ys (i + 1 + m) i]) rfl rfl (by exact Sel.auto) (by exact Has.auto) (by rw [List.length_append]; omega)) ?_
    intro u2
    rw [← el, show (szT xs ys xs.length i ++ szI xs ys i m).length + 1 = (szT xs ys xs.length i ++ szI xs ys i (m + 1)).length by rw [el]; simp; omega]
    refine go_is0 rfl (stp_stv rfl rfl (by exact Has.auto) (by exact Sel.auto)) ?_
    (repeat (first | with_reducible (first | refine go_nil ?_ | refine gk_seq ?_ | refine gc_seq ?_ | refine gc_reg ?_ | refine gc_skip ?_ | refine gk_block ?_ | refine gc_block ?_ | refine gc_exit ?_ | refine gc_ret ?_ | refine gk_seqret ?_ | refine gk_seqexit ?_ | refine gk_blockret ?_ | refine gk_out ?_ | refine gk_loopret ?_ | refine gk_loopexit ?_ | refine gq_nil ?_ | refine gd_nil ?_ | refine gc_scope ?_ | refine gk_scope ?_ | refine gk_scoper ?_ | refine gk_scopee ?_) | (with_reducible refine gc_drq ?_; intro _) | (with_reducible first | (refine gc_drw (h := ?_); intro _) | (refine gc_drw2 (h := ?_); intro _)) | (show GO _ _ _ _ _ (⟨some _, none, .call _ _⟩ :: _) _; first | (show GO _ _ _ _ _ (⟨some _, none, .call fn_impl_ValidCloud _⟩ :: _) _; refine go_callp rfl code_impl_ValidCloud.callable (fun H hH => implValidCloud_ok (hH.ints (by exact Has.auto)) (hH.ints (by exact Has.auto)) (by omega) (by omega)) ?_)) | (show GO _ _ _ _ _ (⟨some _, none, _⟩ :: _) _; first | refine go_op (hk := ?_) | (refine go_nw (hk := ?_); intro u; try simp only [List.length_cons, List.length_nil, List.nil_append, Nat.zero_add]) | (refine go_np (hk := ?_); intro id)) | (show GQ _ _ _ _ _ _ _ (⟨some _, none, _⟩ :: _) _; first | refine gq_op (hk := ?_) | (refine gq_nw (hk := ?_); intro u; try simp only [List.length_cons, List.length_nil, List.nil_append, Nat.zero_add])) | (show GD _ _ _ _ _ _ _ (⟨some _, none, _⟩ :: _) _; first | refine gd_op (hk := ?_) | (refine gd_nw (hk := ?_); intro u; try simp only [List.length_cons, List.length_nil, List.nil_append, Nat.zero_add])) | (show GD2 _ _ _ _ _ _ _ _ _ _ _ _ _ _; first | refine gd2_nil rfl ?_ | refine gd2_op (hk := ?_) | (refine gd2_nw (hk := ?_); intro u; try simp only [List.length_cons, List.length_nil, List.nil_append, Nat.zero_add]) | refine gd2_l (hk := ?_) | refine gd2_lp (hk := ?_) | (refine gd2_newp (hk := ?_); intro id) | refine gd2_st (hk := ?_) | (refine gd2_bsl rfl rfl ?_; intro u; try simp only [List.length_cons, List.length_nil, List.nil_append, Nat.zero_add]) | (refine gd2_a (hk := ?_); intro u; try simp only [List.length_cons, List.length_nil, List.nil_append, Nat.zero_add])) | (show GO _ _ _ _ _ (⟨none, none, _⟩ :: _) _; refine go_st (hk := ?_)) | (show GD _ _ _ _ _ _ _ (⟨none, none, _⟩ :: _) _; refine gd_st (hk := ?_)) | (show GO _ _ _ _ _ (⟨_, some _, _⟩ :: _) _; first | refine go_in (hk := ?_) | refine go_out (hk := ?_) | refine go_void (hk := ?_)) | (show GQ _ _ _ _ _ _ _ (⟨_, some _, _⟩ :: _) _; first | refine gq_in (hk := ?_) | refine gq_out (hk := ?_) | refine gq_void (hk := ?_)) | (show GK _ _ _ _ (blockK _ _ _); refine gk_past rfl ?_) | (show GC _ _ _ _ _ (.cond _ _ _) _; first | refine gc_yes (h1 := ?_) | refine gc_no (h1 := ?_))))
    exact gk_next (F := []) (g2 [] u2) (hs := Sub.cons (by exact Sel.auto) (Sub.cons (by exact Sel.auto) (Sub.cons (by exact Sel.auto) (Sub.cons (by exact Sel.auto) (sub_drop (sub_drop (sub_drop (sub_refl _))))))))
  · intro z
    simp only [slSig]
    rw [show szT xs ys xs.length xs.length ++ szI xs ys xs.length 0 = szT xs ys xs.length xs.length from List.append_nil _]
    (repeat (first | with_reducible (first | refine go_nil ?_ | refine gk_seq ?_ | refine gc_seq ?_ | refine gc_reg ?_ | refine gc_skip ?_ | refine gk_block ?_ | refine gc_block ?_ | refine gc_exit ?_ | refine gc_ret ?_ | refine gk_seqret ?_ | refine gk_seqexit ?_ | refine gk_blockret ?_ | refine gk_out ?_ | refine gk_loopret ?_ | refine gk_loopexit ?_ | refine gq_nil ?_ | refine gd_nil ?_ | refine gc_scope ?_ | refine gk_scope ?_ | refine gk_scoper ?_ | refine gk_scopee ?_) | (with_reducible refine gc_drq ?_; intro _) | (with_reducible first | (refine gc_drw (h := ?_); intro _) | (refine gc_drw2 (h := ?_); intro _)) | (show GO _ _ _ _ _ (⟨some _, none, .call _ _⟩ :: _) _; first | (show GO _ _ _ _ _ (⟨some _, none, .call fn_impl_ValidCloud _⟩ :: _) _; refine go_callp rfl code_impl_ValidCloud.callable (fun H hH => implValidCloud_ok (hH.ints (by exact Has.auto)) (hH.ints (by exact Has.auto)) (by omega) (by omega)) ?_)) | (show GO _ _ _ _ _ (⟨some _, none, _⟩ :: _) _; first | refine go_op (hk := ?_) | (refine go_nw (hk := ?_); intro u; try simp only [List.length_cons, List.length_nil, List.nil_append, Nat.zero_add]) | (refine go_np (hk := ?_); intro id)) | (show GQ _ _ _ _ _ _ _ (⟨some _, none, _⟩ :: _) _; first | refine gq_op (hk := ?_) | (refine gq_nw (hk := ?_); intro u; try simp only [List.length_cons, List.length_nil, List.nil_append, Nat.zero_add])) | (show GD _ _ _ _ _ _ _ (⟨some _, none, _⟩ :: _) _; first | refine gd_op (hk := ?_) | (refine gd_nw (hk := ?_); intro u; try simp only [List.length_cons, List.length_nil, List.nil_append, Nat.zero_add])) | (show GD2 _ _ _ _ _ _ _ _ _ _ _ _ _ _; first | refine gd2_nil rfl ?_ | refine gd2_op (hk := ?_) | (refine gd2_nw (hk := ?_); intro u; try simp only [List.length_cons, List.length_nil, List.nil_append, Nat.zero_add]) | refine gd2_l (hk := ?_) | refine gd2_lp (hk := ?_) | (refine gd2_newp (hk := ?_); intro id) | refine gd2_st (hk := ?_) | (refine gd2_bsl rfl rfl ?_; intro u; try simp only [List.length_cons, List.length_nil, List.nil_append, Nat.zero_add]) | (refine gd2_a (hk := ?_); intro u; try simp only [List.length_cons, List.length_nil, List.nil_append, Nat.zero_add])) | (show GO _ _ _ _ _ (⟨none, none, _⟩ :: _) _; refine go_st (hk := ?_)) | (show GD _ _ _ _ _ _ _ (⟨none, none, _⟩ :: _) _; refine gd_st (hk := ?_)) | (show GO _ _ _ _ _ (⟨_, some _, _⟩ :: _) _; first | refine go_in (hk := ?_) | refine go_out (hk := ?_) | refine go_void (hk := ?_)) | (show GQ _ _ _ _ _ _ _ (⟨_, some _, _⟩ :: _) _; first | refine gq_in (hk := ?_) | refine gq_out (hk := ?_) | refine gq_void (hk := ?_)) | (show GK _ _ _ _ (blockK _ _ _); refine gk_past rfl ?_) | (show GC _ _ _ _ _ (.cond _ _ _) _; first | refine gc_yes (h1 := ?_) | refine gc_no (h1 := ?_))))
    refine go_callg rfl code_slices_SortFunc_impl_Frac_impl_Frac.callable (fun H hH => sortF_ok (L := szT xs ys xs.length xs.length) hH (by exact Sel.auto) (fun q hq => slS_small hp (hperm.mem_iff.1 hq)) hpos2 (by omega)) ?_
    intro g2 hg2
    (repeat (first | with_reducible (first | refine go_nil ?_ | refine gk_seq ?_ | refine gc_seq ?_ | refine gc_reg ?_ | refine gc_skip ?_ | refine gk_block ?_ | refine gc_block ?_ | refine gc_exit ?_ | refine gc_ret ?_ | refine gk_seqret ?_ | refine gk_seqexit ?_ | refine gk_blockret ?_ | refine gk_out ?_ | refine gk_loopret ?_ | refine gk_loopexit ?_ | refine gq_nil ?_ | refine gd_nil ?_ | refine gc_scope ?_ | refine gk_scope ?_ | refine gk_scoper ?_ | refine gk_scopee ?_) | (with_reducible refine gc_drq ?_; intro _) | (with_reducible first | (refine gc_drw (h := ?_); intro _) | (refine gc_drw2 (h := ?_); intro _)) | (show GO _ _ _ _ _ (⟨some _, none, .call _ _⟩ :: _) _; first | (show GO _ _ _ _ _ (⟨some _, none, .call fn_impl_ValidCloud _⟩ :: _) _; refine go_callp rfl code_impl_ValidCloud.callable (fun H hH => implValidCloud_ok (hH.ints (by exact Has.auto)) (hH.ints (by exact Has.auto)) (by omega) (by omega)) ?_)) | (show GO _ _ _ _ _ (⟨some _, none, _⟩ :: _) _; first | refine go_op (hk := ?_) | (refine go_nw (hk := ?_); intro u; try simp only [List.length_cons, List.length_nil, List.nil_append, Nat.zero_add]) | (refine go_np (hk := ?_); intro id)) | (show GQ _ _ _ _ _ _ _ (⟨some _, none, _⟩ :: _) _; first | refine gq_op (hk := ?_) | (refine gq_nw (hk := ?_); intro u; try simp only [List.length_cons, List.length_nil, List.nil_append, Nat.zero_add])) | (show GD _ _ _ _ _ _ _ (⟨some _, none, _⟩ :: _) _; first | refine gd_op (hk := ?_) | (refine gd_nw (hk := ?_); intro u; try simp only [List.length_cons, List.length_nil, List.nil_append, Nat.zero_add])) | (show GD2 _ _ _ _ _ _ _ _ _ _ _ _ _ _; first | refine gd2_nil rfl ?_ | refine gd2_op (hk := ?_) | (refine gd2_nw (hk := ?_); intro u; try simp only [List.length_cons, List.length_nil, List.nil_append, Nat.zero_add]) | refine gd2_l (hk := ?_) | refine gd2_lp (hk := ?_) | (refine gd2_newp (hk := ?_); intro id) | refine gd2_st (hk := ?_) | (refine gd2_bsl rfl rfl ?_; intro u; try simp only [List.length_cons, List.length_nil, List.nil_append, Nat.zero_add]) | (refine gd2_a (hk := ?_); intro u; try simp only [List.length_cons, List.length_nil, List.nil_append, Nat.zero_add])) | (show GO _ _ _ _ _ (⟨none, none, _⟩ :: _) _; refine go_st (hk := ?_)) | (show GD _ _ _ _ _ _ _ (⟨none, none, _⟩ :: _) _; refine gd_st (hk := ?_)) | (show GO _ _ _ _ _ (⟨_, some _, _⟩ :: _) _; first | refine go_in (hk := ?_) | refine go_out (hk := ?_) | refine go_void (hk := ?_)) | (show GQ _ _ _ _ _ _ _ (⟨_, some _, _⟩ :: _) _; first | refine gq_in (hk := ?_) | refine gq_out (hk := ?_) | refine gq_void (hk := ?_)) | (show GK _ _ _ _ (blockK _ _ _); refine gk_past rfl ?_) | (show GC _ _ _ _ _ (.cond _ _ _) _; first | refine gc_yes (h1 := ?_) | refine gc_no (h1 := ?_))))
    exact gk_ret rfl fun H' hH => hH.give .head

theorem slO_len {xs ys : List Int} : (slO xs ys).length = 0 ↔ ¬ Cloud xs ys := by
  unfold slO
  split
  · rename_i h
    have := h.slopes
    rw [sortR_len]
    exact ⟨fun h2 => by omega, fun h2 => absurd h h2⟩
  · rename_i h
    exact ⟨fun _ => h, fun _ => rfl⟩

/-- the line through two points is the line through them the other way round -/
theorem slR_swap (xs ys : List Int) (i k : Nat) : slR xs ys i k = slR xs ys k i := by
  unfold slR
  by_cases h : nth xs i = nth xs k
  · rw [h, show ∀ a : Int, a - a = 0 from fun a => by omega, show ((0 : Int) : Rat) = 0 from rfl]
    grind
  · rw [show nth ys i - nth ys k = -(nth ys k - nth ys i) by omega, show nth xs i - nth xs k = -(nth xs k - nth xs i) by omega, Rat.intCast_neg, Rat.intCast_neg, div_neg' (rat_ne (by omega))]
    grind

theorem slO_le (xs ys : List Int) : (slO xs ys).length ≤ 49 := by
  unfold slO
  split
  · rename_i h
    have h7 := h.1.2.2
    have := slS_len xs ys xs.length
    have hii : xs.length * xs.length ≤ 7 * 7 := Nat.mul_le_mul (by omega) (by omega)
    rw [sortR_len]; omega
  · simp

theorem nth_rev {xs : List Int} {i : Nat} (h : i < xs.length) : nth xs.reverse i = nth xs (xs.length - 1 - i) := by
  rw [nth_of (by simp; omega), nth_of (by omega), List.getElem_reverse]

theorem Pts.rev {xs ys : List Int} (h : Pts xs ys) : Pts xs.reverse ys.reverse := by
  obtain ⟨h1, h2, h3⟩ := h
  refine ⟨fun i hi => ?_, by simp [h2], by simp; omega⟩
  rw [List.length_reverse] at hi
  rw [nth_rev hi, nth_rev (by omega)]
  have h4 := h1 (xs.length - 1 - i) (by omega)
  rw [← h2]
  exact ⟨by simp; omega, h4.2⟩

theorem Wide.rev {xs : List Int} (h : Wide xs) : Wide xs.reverse := by
  obtain ⟨i, h1, h2, h3⟩ := h
  by_cases h4 : nth xs (xs.length - 1) = nth xs 0
  · have h5 : i ≠ xs.length - 1 := fun e => h3 (by rw [e]; exact h4)
    refine ⟨xs.length - 1 - i, by omega, by simp; omega, ?_⟩
    rw [nth_rev (by omega), nth_rev (by omega), show xs.length - 1 - (xs.length - 1 - i) = i by omega, show xs.length - 1 - 0 = xs.length - 1 by omega, h4]
    exact h3
  · refine ⟨xs.length - 1, by omega, by simp; omega, ?_⟩
    rw [nth_rev (by omega), nth_rev (by omega), show xs.length - 1 - (xs.length - 1) = 0 by omega, show xs.length - 1 - 0 = xs.length - 1 by omega]
    exact fun e => h4 e.symm

theorem Cloud.rev {xs ys : List Int} (h : Cloud xs ys) : Cloud xs.reverse ys.reverse := ⟨h.1.rev, h.2.rev⟩

theorem Pts.neg {xs ys : List Int} (h : Pts xs ys) : Pts xs (ys.map (- ·)) := by
  obtain ⟨h1, h2, h3⟩ := h
  refine ⟨fun i hi => ?_, by simp [h2], h3⟩
  have h4 := h1 i hi
  rw [getD_map _ (by omega)]
  exact ⟨by simp; omega, h4.2.1, by omega⟩

theorem Cloud.neg {xs ys : List Int} (h : Cloud xs ys) : Cloud xs (ys.map (- ·)) := ⟨h.1.neg, h.2⟩
/- slopes of what is turned, of what is negated -/

theorem slR_rev {xs ys : List Int} (hl : xs.length = ys.length) {i k : Nat} (hi : i < xs.length) (hk : k < xs.length) : slR xs.reverse ys.reverse i k = slR xs ys (xs.length - 1 - i) (xs.length - 1 - k) := by
  unfold slR
  rw [nth_rev hi, nth_rev hk, nth_rev (by omega), nth_rev (by omega), hl]

theorem sl1_rev {xs ys : List Int} (hl : xs.length = ys.length) {i k : Nat} (hi : i < xs.length) (hk : k < xs.length) : sl1 xs.reverse ys.reverse i k = sl1 xs ys (xs.length - 1 - i) (xs.length - 1 - k) := by
  unfold sl1
  rw [slR_rev hl hi hk, nth_rev hi, nth_rev hk]

theorem sl1_swap (xs ys : List Int) (i k : Nat) : sl1 xs ys i k = sl1 xs ys k i := by
  unfold sl1
  rw [slR_swap xs ys i k]
  by_cases h : nth xs i = nth xs k
  · rw [if_neg (fun h2 => h2 h), if_neg (fun h2 => h2 h.symm)]
  · rw [if_pos h, if_pos (fun e => h e.symm)]

theorem slS_rev {xs ys : List Int} (hl : xs.length = ys.length) : (slS xs.reverse ys.reverse xs.length).Perm (slS xs ys xs.length) := by
  rw [slS_cat, slS_cat]
  refine ((catN_perm (g := fun i => catN (fun k => sl1 xs ys (xs.length - 1 - i) (xs.length - 1 - k)) i) fun i hi => List.Perm.of_eq (catN_congr fun k hk => sl1_rev hl hi (by omega))).trans (catN_rev _ _)).trans ?_
  refine (catN_perm (g := fun i => catN (fun m => sl1 xs ys (i + 1 + m) i) (xs.length - (i + 1))) fun i hi => ?_).trans (catN_tri (sl1 xs ys) xs.length).symm
  rw [show xs.length - 1 - i = xs.length - (i + 1) by omega]
  refine (catN_rev _ _).trans (List.Perm.of_eq (catN_congr fun k hk => ?_))
  rw [show xs.length - 1 - (xs.length - (i + 1)) = i by omega, show xs.length - 1 - (xs.length - (i + 1) - 1 - k) = i + 1 + k by omega]
  exact sl1_swap xs ys _ _

theorem slO_rev {xs ys : List Int} (hc : Cloud xs ys) : slO xs.reverse ys.reverse = slO xs ys := by
  unfold slO
  rw [if_pos hc, if_pos hc.rev, List.length_reverse, sortR_congr (slS_rev hc.1.2.1)]

theorem nthR_up {L : List Rat} (h : L.Pairwise (· ≤ ·)) {i j : Nat} (hij : i ≤ j) (hj : j < L.length) : nthR L i ≤ nthR L j := by
  rcases Nat.lt_or_ge i j with h1 | h1
  · rw [nthR_of (by omega), nthR_of hj]
    exact List.pairwise_iff_getElem.1 h i j (by omega) hj h1
  · rw [show i = j by omega]; exact Rat.le_refl

theorem risF_up {L : List Rat} (hs : L.Pairwise (· ≤ ·)) : RisF L := fun k hk h => by
  have := nthR_up hs (i := k) (j := k + 1) (by omega) hk
  grind

theorem slO_fits {xs ys : List Int} : Fits (slO xs ys) := by
  unfold slO
  split
  · rename_i hc
    intro p hp q hq
    exact slS_fits hc.1 xs.length p ((sortR_perm _).mem_iff.1 hp) q ((sortR_perm _).mem_iff.1 hq)
  · intro p hp; cases hp

theorem slO_up {xs ys : List Int} : (slO xs ys).Pairwise (· ≤ ·) := by
  unfold slO
  split
  · exact sortR_up _
  · exact List.Pairwise.nil

theorem slO_cnt {xs ys : List Int} (hc : Cloud xs ys) : (slO xs ys).length = (slS xs ys xs.length).length := by
  unfold slO
  rw [if_pos hc, sortR_len]

theorem Dif.rev {xs : List Int} (h : Dif xs) : Dif xs.reverse := by
  intro i hi k hk e
  rw [List.length_reverse] at hi
  rw [nth_rev hi, nth_rev (by omega)] at e
  exact h (xs.length - 1 - k) (by omega) (xs.length - 1 - i) (by omega) e.symm

theorem CvOk.rev {xs ys : List Int} (h : CvOk xs ys) : CvOk xs.reverse ys.reverse := ⟨⟨h.1.1.rev, by rw [List.length_reverse]; exact h.1.2⟩, h.2.rev⟩

theorem nth_take {xs : List Int} {m i : Nat} (h : i < m) : nth (xs.take m) i = nth xs i := by
  unfold nth
  simp [List.getD, List.getElem?_take_of_lt h]

theorem Pts.take {xs ys : List Int} (h : Pts xs ys) (m : Nat) : Pts (xs.take m) (ys.take m) := by
  obtain ⟨h1, h2, h3⟩ := h
  refine ⟨fun i hi => ?_, by simp [h2], by simp; omega⟩
  rw [List.length_take] at hi
  have h4 := h1 i (by omega)
  rw [nth_take (by omega), nth_take (by omega), List.length_take]
  exact ⟨by omega, h4.2⟩

theorem CvOk.take {xs ys : List Int} (h : CvOk xs ys) {m : Nat} (h1 : 1 ≤ m) (hm : m ≤ xs.length) : CvOk (xs.take m) (ys.take m) := by
  have h5 := h.1.2
  have hl : (xs.take m).length = m := by rw [List.length_take]; omega
  refine ⟨⟨h.1.1.take m, by rw [hl]; omega⟩, fun i hi k hk => ?_⟩
  rw [hl] at hi
  rw [nth_take (by omega), nth_take (by omega)]
  exact h.2 i (by omega) k hk

end Go.Rx.Try
