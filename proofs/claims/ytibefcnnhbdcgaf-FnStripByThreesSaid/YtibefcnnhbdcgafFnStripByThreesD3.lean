import Derived.Test.YtibefcnnhbdcgafFnStripByThreesD2
namespace Go.Rx.Try
open Go.Proofs
set_option maxRecDepth 100000
set_option maxHeartbeats 8000000
set_option linter.unusedSimpArgs false
set_option linter.unusedVariables false

theorem gd2_bslg {P : Program} {Qt : FuncId → List AV → Option AV} {base k : Nat} {A : Heap} {X : List Nat} {E : List (Nat × AV)} {S : Sig} {L O : List AV} {acc : List Fp} {prs : List (Nat × Nat)} {K : St → Prop} {r : List MI} {d n es : Nat} {z : List AV} {parts : List (Nat × MX)} {N : AV → Sig} (hs : Stp A X E S (.bsl n es z parts) (New N))
    (hk : ∀ u, GD2 P Qt base (k + 1) A X ((d, u) :: E) (N u) (u :: L) O (acc ++ [(true, some (k, k + 1))]) prs r K) : GD2 P Qt base k A X E S L O acc prs (⟨some d, none, .bsl n es z parts⟩ :: r) K := by
  refine ⟨fun s m c hE hS hm hL hO hc hkl => ?_⟩
  obtain ⟨v', S'', H', m', rfl, h2, h3, h4, h5, h6⟩ := hs.stp s.τ s.H m (base + k) hE hS hm
  have hd0 : dstep P Qt (base + k) ⟨some d, none, (.bsl n es z parts)⟩ s = mstep (base + k) s.τ s.H (.bsl n es z parts) := dstep_plain2 rfl
  simp only [dops, hd0, h2]
  refine (hk v').g _ m' _ (look_cons hE d _) h3 (by omega) ?_ hO (hc.snoc ?_) (by simp [hkl])
  · intro u hu id hid
    rcases List.mem_cons.1 hu with rfl | hu
    · simp only [mstep] at h2
      split at h2
      · simp only [Option.some.injEq, Prod.mk.injEq] at h2
        rw [← h2.1] at hid
        simp only [AV.bid, Option.some.injEq] at hid; omega
      · cases h2
    · exact hL u hu id hid
  · refine ⟨by simp [foot], by simp [foot], by simp, ?_⟩
    intro lo hi h7 id hid
    simp only [Option.some.injEq, Prod.mk.injEq] at h7
    simp only [touch, List.mem_singleton] at hid
    omega

def slR (xs ys : List Int) (i k : Nat) : Rat := ((nth ys i - nth ys k : Int) : Rat) / ((nth xs i - nth xs k : Int) : Rat)

abbrev rwF (u : AV) (n : Nat) (L : List Rat) : Ch := ⟨.rw, u, 2, n, frs L⟩

theorem nthR_mem {L : List Rat} {i : Nat} (h : i < L.length) : nthR L i ∈ L := by rw [nthR_of h]; exact List.getElem_mem h

abbrev roF (u : AV) (n : Nat) (L : List Rat) : Ch := ⟨.ro, u, 2, n, frs L⟩

/-- a slope: of a denominator of at most 24 -/
theorem slR_fd {xs ys : List Int} (hp : Pts xs ys) {i k : Nat} (h : nth xs i ≠ nth xs k) : ∃ D, D ≤ 24 ∧ FD (slR xs ys i k) D 24 := by
  obtain ⟨b1, b2⟩ := hp.bd
  have x1 := b1.nth (by omega) i
  have x2 := b1.nth (by omega) k
  have y1 := b2.nth (by omega) i
  have y2 := b2.nth (by omega) k
  exact ⟨_, by omega, FD.divn (by omega) (by omega)⟩

def OvF (x y : Int) (s h : Rat) : Prop := (-24 ≤ x ∧ x ≤ 24) ∧ (-24 ≤ y ∧ y ≤ 24) ∧ ∃ D A B, LineOk s h D A B

noncomputable def dOver : List AV → Option AV
  | [.int .i64 x, .int .i64 y, v, w] => match frOf v, frOf w with
    | some s, some h => by
      classical
      exact if OvF x y s h then some (frV ((y : Rat) - (s * (x : Rat) + h))) else none
    | _, _ => none
  | _ => none

theorem dOver_is {x y : Int} {s h : Rat} {D A B : Int} (hx : -24 ≤ x ∧ x ≤ 24) (hy : -24 ≤ y ∧ y ≤ 24) (hl : LineOk s h D A B) : dOver [.int .i64 x, .int .i64 y, frV s, frV h] = some (frV ((y : Rat) - (s * (x : Rat) + h))) := by
  simp only [dOver, frOf_frV]
  exact if_pos ⟨hx, hy, D, A, B, hl⟩

theorem dOver_fam {f : FuncId} {P : Program} (hc : Callable P f) (h : ∀ {H : Heap} {x y : Int} {s h : Rat} {D A B : Int}, (-24 ≤ x ∧ x ≤ 24) → (-24 ≤ y ∧ y ≤ 24) → LineOk s h D A B → ACalls P f [.int .i64 x, .int .i64 y, frV s, frV h] H fun r H' => r = frV ((y : Rat) - (s * (x : Rat) + h)) ∧ H' = H) (H : Heap) : FamOk P H f dOver := by
  intro args v hv
  unfold dOver at hv
  split at hv
  · split at hv
    · rename_i s' h' h1 h2
      split at hv
      · rename_i hF
        simp only [Option.some.injEq] at hv; subst hv
        rw [frOf_some h1, frOf_some h2]
        obtain ⟨a1, a2, D, A, B, hl⟩ := hF
        exact ⟨hc, h a1 a2 hl⟩
      · cases hv
    · cases hv
  · cases hv

theorem dOver_ok (H : Heap) : FamOk Try.prog H fn_spec_over dOver := dOver_fam code_spec_over.callable (fun a b c => specOver_ok a b c) H

/-- a slope alone -/
theorem LineOk.flat {s : Rat} {D : Int} (hs : FD s D 24) (hd : D ≤ 24) : LineOk s ((0 : Int) : Rat) D 24 0 :=
  ⟨hs, ((FD.int (n := 0) (B := 0) (by omega)).lift hs.pos.1).to (by omega) |>.mono (by omega), by omega, by omega, by omega⟩

def bRes (xs ys : List Int) (s : Rat) (j : Nat) : Rat := ((nth ys j : Int) : Rat) - (s * ((nth xs j : Int) : Rat) + ((0 : Int) : Rat))

theorem bRes_fd {xs ys : List Int} (hp : Pts xs ys) {s : Rat} {D : Int} (hs : FD s D 24) (hd : D ≤ 24) (j : Nat) : FD (bRes xs ys s j) D 1152 := by
  obtain ⟨b1, b2⟩ := hp.bd
  have x1 := b1.nth (by omega) j
  have y1 := b2.nth (by omega) j
  exact ((LineOk.flat hs hd).over (x := nth xs j) (y := nth ys j) (by omega) (by omega)).mono (by omega)

theorem fit_48 {p q : Rat} {D E : Int} (hp : FD p D 2304) (hq : FD q E 2304) (hd : D ≤ 48) (he : E ≤ 48) : FitA p q := by
  have := hp.pos.1
  have := hq.pos.1
  have m := mulbd (a := D) (b := E) (A := 48) (B := 48) (by omega) (by omega) hd he
  exact fitA_of hp hq (by omega) (by omega) (by omega)

abbrev F48 (q : Rat) : Prop := ∃ D, D ≤ 48 ∧ FD q D 2304

theorem F48.fit {p q : Rat} (h : F48 p) (h' : F48 q) : FitA p q := by
  obtain ⟨D, d, f⟩ := h
  obtain ⟨E, e, g⟩ := h'
  exact fit_48 f g d e

def thD (xs ys : List Int) (i k j : Nat) : Rat := ((nth ys k : Int) : Rat) - (slR xs ys j i * ((nth xs k : Int) : Rat) + bRes xs ys (slR xs ys j i) i)

def thR (xs ys : List Int) (i k j : Nat) : Rat := absR (thD xs ys i k j) * (((1 : Int) : Rat) / ((2 : Int) : Rat))

theorem th_line {xs ys : List Int} (hp : Pts xs ys) {i j : Nat} (h : nth xs j ≠ nth xs i) : ∃ D, D ≤ 24 ∧ FD (slR xs ys j i) D 24 ∧ LineOk (slR xs ys j i) (bRes xs ys (slR xs ys j i) i) D 24 1152 := by
  obtain ⟨D, d, f⟩ := slR_fd hp h
  exact ⟨D, d, f, f, bRes_fd hp f d i, by omega, by omega, by omega⟩

theorem thD_fd {xs ys : List Int} (hp : Pts xs ys) {i j : Nat} (h : nth xs j ≠ nth xs i) (k : Nat) : ∃ D, D ≤ 24 ∧ FD (thD xs ys i k j) D 2304 := by
  obtain ⟨b1, b2⟩ := hp.bd
  have x1 := b1.nth (by omega) k
  have y1 := b2.nth (by omega) k
  obtain ⟨D, d, f, hl⟩ := th_line hp h
  exact ⟨D, d, (hl.over (x := nth xs k) (y := nth ys k) (by omega) (by omega)).mono (by omega)⟩

theorem thR_fd {xs ys : List Int} (hp : Pts xs ys) {i j : Nat} (h : nth xs j ≠ nth xs i) (k : Nat) : F48 (thR xs ys i k j) := by
  obtain ⟨D, d, f⟩ := thD_fd hp h k
  exact ⟨_, by omega, (f.abs.mul (FD.div (n := 1) (d := 2) (B := 1) (by omega) (by omega))).mono (by omega)⟩

theorem specThree_ok {H : Heap} {a b : AV} {xs ys : List Int} {i k j : Nat} (ha : Ints H a xs) (hb : Ints H b ys) (hp : Pts xs ys) (hi : i < xs.length) (hk : k < xs.length) (hj : j < xs.length) (hne : nth xs j ≠ nth xs i) :
    ACalls Try.prog fn_spec_three [a, b, .int .i64 (i : Int), .int .i64 (k : Int), .int .i64 (j : Int)] H fun r H' => r = frV (thR xs ys i k j) ∧ H' = H := by
  refine ACalls.val ?_ rfl
  obtain ⟨b1, b2⟩ := hp.bd
  have hlen := hp.2.1
  have h7 := hp.2.2
  have xi := b1.nth (by omega) i
  have yi := b2.nth (by omega) i
  have xk := b1.nth (by omega) k
  have yk := b2.nth (by omega) k
  have xj := b1.nth (by omega) j
  have yj := b2.nth (by omega) j
  obtain ⟨D, d, f, hl⟩ := th_line hp hne
  obtain ⟨D2, d2, f2⟩ := thD_fd hp hne k
  have nd := f2.nd
  have w : FitM (absR (thD xs ys i k j)) (((1 : Int) : Rat) / ((2 : Int) : Rat)) := fitM_of f2.abs (FD.div (n := 1) (d := 2) (B := 1) (by omega) (by omega)) (by omega) (by omega)
  refine code_spec_three.go [.roI a xs.length xs, .roI b ys.length ys] ⟨⟨rfl, ha⟩, ⟨rfl, hb⟩, trivial⟩ (by simp) ?_
  unfold mc_spec_three
  (repeat (first | with_reducible (first | refine go_nil ?_ | refine gk_seq ?_ | refine gc_seq ?_ | refine gc_reg ?_ | refine gc_skip ?_ | refine gk_block ?_ | refine gc_block ?_ | refine gc_exit ?_ | refine gc_ret ?_ | refine gk_seqret ?_ | refine gk_seqexit ?_ | refine gk_blockret ?_ | refine gk_out ?_ | refine gk_loopret ?_ | refine gk_loopexit ?_ | refine gq_nil ?_ | refine gd_nil ?_) | (with_reducible refine gc_drq ?_; intro _) | (with_reducible first | (refine gc_drw (h := ?_); intro _) | (refine gc_drw2 (h := ?_); intro _)) | (show GO _ _ _ _ _ (⟨some _, none, _⟩ :: _) _; first | refine go_op (hk := ?_) | (refine go_nw (hk := ?_); intro u; try simp only [List.length_cons, List.length_nil, List.nil_append, Nat.zero_add]) | (refine go_np (hk := ?_); intro id)) | (show GQ _ _ _ _ _ _ _ (⟨some _, none, _⟩ :: _) _; first | refine gq_op (hk := ?_) | (refine gq_nw (hk := ?_); intro u; try simp only [List.length_cons, List.length_nil, List.nil_append, Nat.zero_add])) | (show GD _ _ _ _ _ _ _ (⟨some _, none, _⟩ :: _) _; first | refine gd_op (hk := ?_) | (refine gd_nw (hk := ?_); intro u; try simp only [List.length_cons, List.length_nil, List.nil_append, Nat.zero_add])) | (show GD2 _ _ _ _ _ _ _ _ _ _ _ _ _ _; first | refine gd2_nil rfl ?_ | refine gd2_op (hk := ?_) | (refine gd2_nw (hk := ?_); intro u; try simp only [List.length_cons, List.length_nil, List.nil_append, Nat.zero_add]) | refine gd2_l (hk := ?_) | refine gd2_lp (hk := ?_) | (refine gd2_newp (hk := ?_); intro id) | refine gd2_st (hk := ?_) | (refine gd2_bsl rfl rfl ?_; intro u; try simp only [List.length_cons, List.length_nil, List.nil_append, Nat.zero_add]) | (refine gd2_a (hk := ?_); intro u; try simp only [List.length_cons, List.length_nil, List.nil_append, Nat.zero_add])) | (show GO _ _ _ _ _ (⟨none, none, _⟩ :: _) _; refine go_st (hk := ?_)) | (show GD _ _ _ _ _ _ _ (⟨none, none, _⟩ :: _) _; refine gd_st (hk := ?_)) | (show GO _ _ _ _ _ (⟨_, some _, _⟩ :: _) _; first | refine go_in (hk := ?_) | refine go_out (hk := ?_) | refine go_void (hk := ?_)) | (show GQ _ _ _ _ _ _ _ (⟨_, some _, _⟩ :: _) _; first | refine gq_in (hk := ?_) | refine gq_out (hk := ?_) | refine gq_void (hk := ?_)) | (show GK _ _ _ _ (blockK _ _ _); refine gk_past rfl ?_) | (show GC _ _ _ _ _ (.cond _ _ _) _; first | refine gc_yes (h1 := ?_) | refine gc_no (h1 := ?_))))
  refine gc_cond rfl (fun h => absurd h.symm hne) (fun h => ?_)
  (repeat (first | with_reducible (first | refine go_nil ?_ | refine gk_seq ?_ | refine gc_seq ?_ | refine gc_reg ?_ | refine gc_skip ?_ | refine gk_block ?_ | refine gc_block ?_ | refine gc_exit ?_ | refine gc_ret ?_ | refine gk_seqret ?_ | refine gk_seqexit ?_ | refine gk_blockret ?_ | refine gk_out ?_ | refine gk_loopret ?_ | refine gk_loopexit ?_ | refine gq_nil ?_ | refine gd_nil ?_) | (with_reducible refine gc_drq ?_; intro _) | (with_reducible first | (refine gc_drw (h := ?_); intro _) | (refine gc_drw2 (h := ?_); intro _)) | (show GO _ _ _ _ _ (⟨some _, none, _⟩ :: _) _; first | refine go_op (hk := ?_) | (refine go_nw (hk := ?_); intro u; try simp only [List.length_cons, List.length_nil, List.nil_append, Nat.zero_add]) | (refine go_np (hk := ?_); intro id)) | (show GQ _ _ _ _ _ _ _ (⟨some _, none, _⟩ :: _) _; first | refine gq_op (hk := ?_) | (refine gq_nw (hk := ?_); intro u; try simp only [List.length_cons, List.length_nil, List.nil_append, Nat.zero_add])) | (show GD _ _ _ _ _ _ _ (⟨some _, none, _⟩ :: _) _; first | refine gd_op (hk := ?_) | (refine gd_nw (hk := ?_); intro u; try simp only [List.length_cons, List.length_nil, List.nil_append, Nat.zero_add])) | (show GD2 _ _ _ _ _ _ _ _ _ _ _ _ _ _; first | refine gd2_nil rfl ?_ | refine gd2_op (hk := ?_) | (refine gd2_nw (hk := ?_); intro u; try simp only [List.length_cons, List.length_nil, List.nil_append, Nat.zero_add]) | refine gd2_l (hk := ?_) | refine gd2_lp (hk := ?_) | (refine gd2_newp (hk := ?_); intro id) | refine gd2_st (hk := ?_) | (refine gd2_bsl rfl rfl ?_; intro u; try simp only [List.length_cons, List.length_nil, List.nil_append, Nat.zero_add]) | (refine gd2_a (hk := ?_); intro u; try simp only [List.length_cons, List.length_nil, List.nil_append, Nat.zero_add])) | (show GO _ _ _ _ _ (⟨none, none, _⟩ :: _) _; refine go_st (hk := ?_)) | (show GD _ _ _ _ _ _ _ (⟨none, none, _⟩ :: _) _; refine gd_st (hk := ?_)) | (show GO _ _ _ _ _ (⟨_, some _, _⟩ :: _) _; first | refine go_in (hk := ?_) | refine go_out (hk := ?_) | refine go_void (hk := ?_)) | (show GQ _ _ _ _ _ _ _ (⟨_, some _, _⟩ :: _) _; first | refine gq_in (hk := ?_) | refine gq_out (hk := ?_) | refine gq_void (hk := ?_)) | (show GK _ _ _ _ (blockK _ _ _); refine gk_past rfl ?_) | (show GC _ _ _ _ _ (.cond _ _ _) _; first | refine gc_yes (h1 := ?_) | refine gc_no (h1 := ?_))))
  refine gc_drw2q (qtTab [(fn_spec_frac, dFrac)]) (fun H => qtTab_cons (dFrac_ok H) qtTab_nil) (fun base => ?_)
  (repeat (first | with_reducible (first | refine go_nil ?_ | refine gk_seq ?_ | refine gc_seq ?_ | refine gc_reg ?_ | refine gc_skip ?_ | refine gk_block ?_ | refine gc_block ?_ | refine gc_exit ?_ | refine gc_ret ?_ | refine gk_seqret ?_ | refine gk_seqexit ?_ | refine gk_blockret ?_ | refine gk_out ?_ | refine gk_loopret ?_ | refine gk_loopexit ?_ | refine gq_nil ?_ | refine gd_nil ?_) | (with_reducible refine gc_drq ?_; intro _) | (with_reducible first | (refine gc_drw (h := ?_); intro _) | (refine gc_drw2 (h := ?_); intro _)) | (show GO _ _ _ _ _ (⟨some _, none, _⟩ :: _) _; first | refine go_op (hk := ?_) | (refine go_nw (hk := ?_); intro u; try simp only [List.length_cons, List.length_nil, List.nil_append, Nat.zero_add]) | (refine go_np (hk := ?_); intro id)) | (show GQ _ _ _ _ _ _ _ (⟨some _, none, _⟩ :: _) _; first | refine gq_op (hk := ?_) | (refine gq_nw (hk := ?_); intro u; try simp only [List.length_cons, List.length_nil, List.nil_append, Nat.zero_add])) | (show GD _ _ _ _ _ _ _ (⟨some _, none, _⟩ :: _) _; first | refine gd_op (hk := ?_) | (refine gd_nw (hk := ?_); intro u; try simp only [List.length_cons, List.length_nil, List.nil_append, Nat.zero_add])) | (show GD2 _ _ _ _ _ _ _ _ _ _ _ _ _ _; first | refine gd2_nil rfl ?_ | refine gd2_op (hk := ?_) | (refine gd2_nw (hk := ?_); intro u; try simp only [List.length_cons, List.length_nil, List.nil_append, Nat.zero_add]) | refine gd2_l (hk := ?_) | refine gd2_lp (hk := ?_) | (refine gd2_newp (hk := ?_); intro id) | refine gd2_st (hk := ?_) | (refine gd2_bsl rfl rfl ?_; intro u; try simp only [List.length_cons, List.length_nil, List.nil_append, Nat.zero_add]) | (refine gd2_a (hk := ?_); intro u; try simp only [List.length_cons, List.length_nil, List.nil_append, Nat.zero_add])) | (show GO _ _ _ _ _ (⟨none, none, _⟩ :: _) _; refine go_st (hk := ?_)) | (show GD _ _ _ _ _ _ _ (⟨none, none, _⟩ :: _) _; refine gd_st (hk := ?_)) | (show GO _ _ _ _ _ (⟨_, some _, _⟩ :: _) _; first | refine go_in (hk := ?_) | refine go_out (hk := ?_) | refine go_void (hk := ?_)) | (show GQ _ _ _ _ _ _ _ (⟨_, some _, _⟩ :: _) _; first | refine gq_in (hk := ?_) | refine gq_out (hk := ?_) | refine gq_void (hk := ?_)) | (show GK _ _ _ _ (blockK _ _ _); refine gk_past rfl ?_) | (show GC _ _ _ _ _ (.cond _ _ _) _; first | refine gc_yes (h1 := ?_) | refine gc_no (h1 := ?_))))
  refine gd2_call rfl (dFrac_is (a := nth ys j - nth ys i) (b := nth xs j - nth xs i) (by omega) (by omega) (by omega)) ?_
  rw [show ((nth ys j - nth ys i : Int) : Rat) / ((nth xs j - nth xs i : Int) : Rat) = slR xs ys j i from rfl]
  (repeat (first | with_reducible (first | refine go_nil ?_ | refine gk_seq ?_ | refine gc_seq ?_ | refine gc_reg ?_ | refine gc_skip ?_ | refine gk_block ?_ | refine gc_block ?_ | refine gc_exit ?_ | refine gc_ret ?_ | refine gk_seqret ?_ | refine gk_seqexit ?_ | refine gk_blockret ?_ | refine gk_out ?_ | refine gk_loopret ?_ | refine gk_loopexit ?_ | refine gq_nil ?_ | refine gd_nil ?_) | (with_reducible refine gc_drq ?_; intro _) | (with_reducible first | (refine gc_drw (h := ?_); intro _) | (refine gc_drw2 (h := ?_); intro _)) | (show GO _ _ _ _ _ (⟨some _, none, _⟩ :: _) _; first | refine go_op (hk := ?_) | (refine go_nw (hk := ?_); intro u; try simp only [List.length_cons, List.length_nil, List.nil_append, Nat.zero_add]) | (refine go_np (hk := ?_); intro id)) | (show GQ _ _ _ _ _ _ _ (⟨some _, none, _⟩ :: _) _; first | refine gq_op (hk := ?_) | (refine gq_nw (hk := ?_); intro u; try simp only [List.length_cons, List.length_nil, List.nil_append, Nat.zero_add])) | (show GD _ _ _ _ _ _ _ (⟨some _, none, _⟩ :: _) _; first | refine gd_op (hk := ?_) | (refine gd_nw (hk := ?_); intro u; try simp only [List.length_cons, List.length_nil, List.nil_append, Nat.zero_add])) | (show GD2 _ _ _ _ _ _ _ _ _ _ _ _ _ _; first | refine gd2_nil rfl ?_ | refine gd2_op (hk := ?_) | (refine gd2_nw (hk := ?_); intro u; try simp only [List.length_cons, List.length_nil, List.nil_append, Nat.zero_add]) | refine gd2_l (hk := ?_) | refine gd2_lp (hk := ?_) | (refine gd2_newp (hk := ?_); intro id) | refine gd2_st (hk := ?_) | (refine gd2_bsl rfl rfl ?_; intro u; try simp only [List.length_cons, List.length_nil, List.nil_append, Nat.zero_add]) | (refine gd2_a (hk := ?_); intro u; try simp only [List.length_cons, List.length_nil, List.nil_append, Nat.zero_add])) | (show GO _ _ _ _ _ (⟨none, none, _⟩ :: _) _; refine go_st (hk := ?_)) | (show GD _ _ _ _ _ _ _ (⟨none, none, _⟩ :: _) _; refine gd_st (hk := ?_)) | (show GO _ _ _ _ _ (⟨_, some _, _⟩ :: _) _; first | refine go_in (hk := ?_) | refine go_out (hk := ?_) | refine go_void (hk := ?_)) | (show GQ _ _ _ _ _ _ _ (⟨_, some _, _⟩ :: _) _; first | refine gq_in (hk := ?_) | refine gq_out (hk := ?_) | refine gq_void (hk := ?_)) | (show GK _ _ _ _ (blockK _ _ _); refine gk_past rfl ?_) | (show GC _ _ _ _ _ (.cond _ _ _) _; first | refine gc_yes (h1 := ?_) | refine gc_no (h1 := ?_))))
  rename_i i10
  revert id; intro i11
  refine gc_drw2q (qtTab [(fn_spec_frac, dFrac), (fn_spec_over, dOver)]) (fun H => qtTab_cons (dFrac_ok H) (qtTab_cons (dOver_ok H) qtTab_nil)) (fun base => ?_)
  (repeat (first | with_reducible (first | refine go_nil ?_ | refine gk_seq ?_ | refine gc_seq ?_ | refine gc_reg ?_ | refine gc_skip ?_ | refine gk_block ?_ | refine gc_block ?_ | refine gc_exit ?_ | refine gc_ret ?_ | refine gk_seqret ?_ | refine gk_seqexit ?_ | refine gk_blockret ?_ | refine gk_out ?_ | refine gk_loopret ?_ | refine gk_loopexit ?_ | refine gq_nil ?_ | refine gd_nil ?_) | (with_reducible refine gc_drq ?_; intro _) | (with_reducible first | (refine gc_drw (h := ?_); intro _) | (refine gc_drw2 (h := ?_); intro _)) | (show GO _ _ _ _ _ (⟨some _, none, _⟩ :: _) _; first | refine go_op (hk := ?_) | (refine go_nw (hk := ?_); intro u; try simp only [List.length_cons, List.length_nil, List.nil_append, Nat.zero_add]) | (refine go_np (hk := ?_); intro id)) | (show GQ _ _ _ _ _ _ _ (⟨some _, none, _⟩ :: _) _; first | refine gq_op (hk := ?_) | (refine gq_nw (hk := ?_); intro u; try simp only [List.length_cons, List.length_nil, List.nil_append, Nat.zero_add])) | (show GD _ _ _ _ _ _ _ (⟨some _, none, _⟩ :: _) _; first | refine gd_op (hk := ?_) | (refine gd_nw (hk := ?_); intro u; try simp only [List.length_cons, List.length_nil, List.nil_append, Nat.zero_add])) | (show GD2 _ _ _ _ _ _ _ _ _ _ _ _ _ _; first | refine gd2_nil rfl ?_ | refine gd2_op (hk := ?_) | (refine gd2_nw (hk := ?_); intro u; try simp only [List.length_cons, List.length_nil, List.nil_append, Nat.zero_add]) | refine gd2_l (hk := ?_) | refine gd2_lp (hk := ?_) | (refine gd2_newp (hk := ?_); intro id) | refine gd2_st (hk := ?_) | (refine gd2_bsl rfl rfl ?_; intro u; try simp only [List.length_cons, List.length_nil, List.nil_append, Nat.zero_add]) | (refine gd2_a (hk := ?_); intro u; try simp only [List.length_cons, List.length_nil, List.nil_append, Nat.zero_add])) | (show GO _ _ _ _ _ (⟨none, none, _⟩ :: _) _; refine go_st (hk := ?_)) | (show GD _ _ _ _ _ _ _ (⟨none, none, _⟩ :: _) _; refine gd_st (hk := ?_)) | (show GO _ _ _ _ _ (⟨_, some _, _⟩ :: _) _; first | refine go_in (hk := ?_) | refine go_out (hk := ?_) | refine go_void (hk := ?_)) | (show GQ _ _ _ _ _ _ _ (⟨_, some _, _⟩ :: _) _; first | refine gq_in (hk := ?_) | refine gq_out (hk := ?_) | refine gq_void (hk := ?_)) | (show GK _ _ _ _ (blockK _ _ _); refine gk_past rfl ?_) | (show GC _ _ _ _ _ (.cond _ _ _) _; first | refine gc_yes (h1 := ?_) | refine gc_no (h1 := ?_))))
  refine gd2_call rfl (dFrac_is (a := 0) (b := 1) (by omega) (by omega) (by omega)) ?_
  rw [rat_one]
  refine gd2_call rfl (dOver_is (x := nth xs i) (y := nth ys i) (s := slR xs ys j i) (by omega) (by omega) (LineOk.flat f d)) ?_
  refine gd2_call rfl (dOver_is (x := nth xs k) (y := nth ys k) (s := slR xs ys j i) (h := bRes xs ys (slR xs ys j i) i) (by omega) (by omega) hl) ?_
  rw [show ((nth ys k : Int) : Rat) - (slR xs ys j i * ((nth xs k : Int) : Rat) + bRes xs ys (slR xs ys j i) i) = thD xs ys i k j from rfl]
  (repeat (first | with_reducible (first | refine go_nil ?_ | refine gk_seq ?_ | refine gc_seq ?_ | refine gc_reg ?_ | refine gc_skip ?_ | refine gk_block ?_ | refine gc_block ?_ | refine gc_exit ?_ | refine gc_ret ?_ | refine gk_seqret ?_ | refine gk_seqexit ?_ | refine gk_blockret ?_ | refine gk_out ?_ | refine gk_loopret ?_ | refine gk_loopexit ?_ | refine gq_nil ?_ | refine gd_nil ?_) | (with_reducible refine gc_drq ?_; intro _) | (with_reducible first | (refine gc_drw (h := ?_); intro _) | (refine gc_drw2 (h := ?_); intro _)) | (show GO _ _ _ _ _ (⟨some _, none, _⟩ :: _) _; first | refine go_op (hk := ?_) | (refine go_nw (hk := ?_); intro u; try simp only [List.length_cons, List.length_nil, List.nil_append, Nat.zero_add]) | (refine go_np (hk := ?_); intro id)) | (show GQ _ _ _ _ _ _ _ (⟨some _, none, _⟩ :: _) _; first | refine gq_op (hk := ?_) | (refine gq_nw (hk := ?_); intro u; try simp only [List.length_cons, List.length_nil, List.nil_append, Nat.zero_add])) | (show GD _ _ _ _ _ _ _ (⟨some _, none, _⟩ :: _) _; first | refine gd_op (hk := ?_) | (refine gd_nw (hk := ?_); intro u; try simp only [List.length_cons, List.length_nil, List.nil_append, Nat.zero_add])) | (show GD2 _ _ _ _ _ _ _ _ _ _ _ _ _ _; first | refine gd2_nil rfl ?_ | refine gd2_op (hk := ?_) | (refine gd2_nw (hk := ?_); intro u; try simp only [List.length_cons, List.length_nil, List.nil_append, Nat.zero_add]) | refine gd2_l (hk := ?_) | refine gd2_lp (hk := ?_) | (refine gd2_newp (hk := ?_); intro id) | refine gd2_st (hk := ?_) | (refine gd2_bsl rfl rfl ?_; intro u; try simp only [List.length_cons, List.length_nil, List.nil_append, Nat.zero_add]) | (refine gd2_a (hk := ?_); intro u; try simp only [List.length_cons, List.length_nil, List.nil_append, Nat.zero_add])) | (show GO _ _ _ _ _ (⟨none, none, _⟩ :: _) _; refine go_st (hk := ?_)) | (show GD _ _ _ _ _ _ _ (⟨none, none, _⟩ :: _) _; refine gd_st (hk := ?_)) | (show GO _ _ _ _ _ (⟨_, some _, _⟩ :: _) _; first | refine go_in (hk := ?_) | refine go_out (hk := ?_) | refine go_void (hk := ?_)) | (show GQ _ _ _ _ _ _ _ (⟨_, some _, _⟩ :: _) _; first | refine gq_in (hk := ?_) | refine gq_out (hk := ?_) | refine gq_void (hk := ?_)) | (show GK _ _ _ _ (blockK _ _ _); refine gk_past rfl ?_) | (show GC _ _ _ _ _ (.cond _ _ _) _; first | refine gc_yes (h1 := ?_) | refine gc_no (h1 := ?_))))
  revert id; intro i12
  refine go_callp rfl code_spec_size.callable (fun H hH => specSize_ok (q := thD xs ys i k j) (by omega)) ?_
  refine go_callp rfl code_spec_frac.callable (fun H hH => frac_ok (a := 1) (b := 2) (by omega) (by omega) (by omega)) ?_
  refine go_callp rfl code_spec_times.callable (fun H hH => specTimes_ok w) ?_
  (repeat (first | with_reducible (first | refine go_nil ?_ | refine gk_seq ?_ | refine gc_seq ?_ | refine gc_reg ?_ | refine gc_skip ?_ | refine gk_block ?_ | refine gc_block ?_ | refine gc_exit ?_ | refine gc_ret ?_ | refine gk_seqret ?_ | refine gk_seqexit ?_ | refine gk_blockret ?_ | refine gk_out ?_ | refine gk_loopret ?_ | refine gk_loopexit ?_ | refine gq_nil ?_ | refine gd_nil ?_) | (with_reducible refine gc_drq ?_; intro _) | (with_reducible first | (refine gc_drw (h := ?_); intro _) | (refine gc_drw2 (h := ?_); intro _)) | (show GO _ _ _ _ _ (⟨some _, none, _⟩ :: _) _; first | refine go_op (hk := ?_) | (refine go_nw (hk := ?_); intro u; try simp only [List.length_cons, List.length_nil, List.nil_append, Nat.zero_add]) | (refine go_np (hk := ?_); intro id)) | (show GQ _ _ _ _ _ _ _ (⟨some _, none, _⟩ :: _) _; first | refine gq_op (hk := ?_) | (refine gq_nw (hk := ?_); intro u; try simp only [List.length_cons, List.length_nil, List.nil_append, Nat.zero_add])) | (show GD _ _ _ _ _ _ _ (⟨some _, none, _⟩ :: _) _; first | refine gd_op (hk := ?_) | (refine gd_nw (hk := ?_); intro u; try simp only [List.length_cons, List.length_nil, List.nil_append, Nat.zero_add])) | (show GD2 _ _ _ _ _ _ _ _ _ _ _ _ _ _; first | refine gd2_nil rfl ?_ | refine gd2_op (hk := ?_) | (refine gd2_nw (hk := ?_); intro u; try simp only [List.length_cons, List.length_nil, List.nil_append, Nat.zero_add]) | refine gd2_l (hk := ?_) | refine gd2_lp (hk := ?_) | (refine gd2_newp (hk := ?_); intro id) | refine gd2_st (hk := ?_) | (refine gd2_bsl rfl rfl ?_; intro u; try simp only [List.length_cons, List.length_nil, List.nil_append, Nat.zero_add]) | (refine gd2_a (hk := ?_); intro u; try simp only [List.length_cons, List.length_nil, List.nil_append, Nat.zero_add])) | (show GO _ _ _ _ _ (⟨none, none, _⟩ :: _) _; refine go_st (hk := ?_)) | (show GD _ _ _ _ _ _ _ (⟨none, none, _⟩ :: _) _; refine gd_st (hk := ?_)) | (show GO _ _ _ _ _ (⟨_, some _, _⟩ :: _) _; first | refine go_in (hk := ?_) | refine go_out (hk := ?_) | refine go_void (hk := ?_)) | (show GQ _ _ _ _ _ _ _ (⟨_, some _, _⟩ :: _) _; first | refine gq_in (hk := ?_) | refine gq_out (hk := ?_) | refine gq_void (hk := ?_)) | (show GK _ _ _ _ (blockK _ _ _); refine gk_past rfl ?_) | (show GC _ _ _ _ _ (.cond _ _ _) _; first | refine gc_yes (h1 := ?_) | refine gc_no (h1 := ?_))))
  exact gk_retc rfl (by exact Sel.auto) rfl rfl fun H' hH => ⟨rfl, hH.leE⟩

theorem qops_up {P : Program} {Qt : FuncId → List AV → Option AV} {K K' : St → Prop} (h : ∀ s, K s → K' s) : ∀ (l : List MI) (s : St), qops P Qt l s K → qops P Qt l s K'
  | [], s, g => h s g
  | m :: r, s, g => by
    simp only [qops] at g ⊢
    cases hd : dstep P Qt s.H.size m s with
    | none => rw [hd] at g; exact g.elim
    | some p =>
      obtain ⟨v, H'⟩ := p
      rw [hd] at g
      exact qops_up h r _ g

theorem dopsC_up {P : Program} {Qt : FuncId → List AV → Option AV} {base : Nat} {prs : List (Nat × Nat)} {C : List (List Nat × List Nat) → Prop} {K K' : St → Prop} (h : ∀ s, K s → K' s) : ∀ (l : List MI) (k : Nat) (s : St) (acc : List (List Nat × List Nat)), dopsC P Qt base k l s acc prs C K → dopsC P Qt base k l s acc prs C K'
  | [], k, s, acc, g => ⟨g.1, h s g.2⟩
  | m :: r, k, s, acc, g => by
    simp only [dopsC] at g ⊢
    cases hd : dstep P Qt (base + k) m s with
    | none => rw [hd] at g; exact g.elim
    | some p =>
      obtain ⟨v, H'⟩ := p
      rw [hd] at g
      exact dopsC_up h r _ _ _ g

theorem cops_up {P : Program} {Qt : FuncId → List AV → Option AV} {prs : List (Nat × Nat)} {K K' : St → Prop} (h : ∀ s, K s → K' s) : ∀ (l : List MI) (s : St) (acc : List (List Nat × List Nat)), cops P Qt l s acc prs K → cops P Qt l s acc prs K'
  | [], s, acc, g => ⟨g.1, h s g.2⟩
  | m :: r, s, acc, g => by
    simp only [cops] at g ⊢
    cases hd : dstep P Qt s.H.size m s with
    | none => rw [hd] at g; exact g.elim
    | some p =>
      obtain ⟨v, H'⟩ := p
      rw [hd] at g
      exact cops_up h r _ _ g

theorem mwp_up {P : Program} : ∀ (c : MC), c.flat = true → ∀ {Q Q' : Exit → St → Prop}, (∀ e s, Q e s → Q' e s) → ∀ s, mwp P c Q s → mwp P c Q' s
  | .skip, _, Q, Q', h, s, g => h _ _ g
  | .reg l, _, Q, Q', h, s, g => mops_up (h .normal) l s g
  | .drq l, _, Q, Q', h, s, g => by
    obtain ⟨Qt, h1, h2⟩ := g
    exact ⟨Qt, h1, qops_up (h .normal) l s h2⟩
  | .drw l prs, _, Q, Q', h, s, g => by
    obtain ⟨Qt, h2⟩ := g
    exact ⟨Qt, dopsC_up (h .normal) l _ _ _ h2⟩
  | .drc l prs, _, Q, Q', h, s, g => by
    obtain ⟨Qt, h1, h2⟩ := g
    exact ⟨Qt, h1, cops_up (h .normal) l _ _ h2⟩
  | .dra ls, _, Q, Q', h, s, g => fun l hl => mops_up (h .normal) l s (g l hl)
  | .seq a b, hf, Q, Q', h, s, g => by
    simp only [MC.flat, Bool.and_eq_true] at hf
    refine mwp_up a hf.1 (fun e t ht => ?_) s g
    cases e with
    | normal => exact mwp_up b hf.2 h t ht
    | _ => exact h _ _ ht
  | .cond c a b, hf, Q, Q', h, s, g => by
    simp only [MC.flat, Bool.and_eq_true] at hf
    simp only [mwp, mcond] at g ⊢
    split at g
    · exact ⟨fun hb => mwp_up a hf.1 h s (g.1 hb), fun hb => mwp_up b hf.2 h s (g.2 hb)⟩
    · exact g.elim
  | .block id a, hf, Q, Q', h, s, g => by
    refine mwp_up a hf (fun e t ht => ?_) s g
    cases e <;> simp only [blockK] at ht ⊢ <;> first | exact h _ _ ht | (split at ht <;> rename_i hi <;> simp only [hi] <;> exact h _ _ ht)
  | .loop a, hf, Q, Q', h, s, g => by
    obtain ⟨I, μ, h1, h2⟩ := g
    refine ⟨I, μ, h1, fun t ht => ?_⟩
    refine mwp_up a hf (fun e u hu => ?_) t (h2 t ht)
    cases e <;> simp only [loopK] at hu ⊢ <;> first | exact hu | exact h _ _ hu
  | .scope a, hf, Q, Q', h, s, g => by
    refine mwp_up a hf (fun e t ht => ?_) s g
    cases e <;> simp only [scopeK] at ht ⊢ <;> first | exact ht | exact h _ _ ht
  | .exit id, _, Q, Q', h, s, g => h _ _ g
  | .ret, _, Q, Q', h, s, g => h _ _ g

def cutQ {γ : Type} (A : Heap) (X : List Nat) (F : γ → List (Nat × AV)) (T : γ → Sig) (Φ : γ → Prop) (Q : Exit → St → Prop) : Exit → St → Prop
  | .normal, s => ∃ g, Φ g ∧ Fit A X (F g) (T g) s
  | e, s => Q e s

/-- all ways through a piece of code lead to the same -/
theorem gc_cut {P : Program} {A : Heap} {X : List Nat} {E : List (Nat × AV)} {S : Sig} {Q : Exit → St → Prop} {c : MC} {γ : Type} (F : γ → List (Nat × AV)) (T : γ → Sig) (Φ : γ → Prop) (hf : c.flat = true) (h : GC P A X E S c (cutQ A X F T Φ Q)) (hk : ∀ g, Φ g → GK A X (F g) (T g) (Q .normal)) : GC P A X E S c Q := by
  refine ⟨fun s hs => mwp_up c hf (fun e t ht => ?_) s (h.g s hs)⟩
  cases e with
  | normal => obtain ⟨g, h1, h2⟩ := ht; exact (hk g h1).g t h2
  | _ => exact ht

theorem gk_cutq {A : Heap} {X : List Nat} {E : List (Nat × AV)} {S : Sig} {Q : Exit → St → Prop} {γ : Type} {F : γ → List (Nat × AV)} {T : γ → Sig} {Φ : γ → Prop} (g : γ) (hp : Φ g) (hE : Cov E (F g)) (hS : Sub S (T g)) : GK A X E S (cutQ A X F T Φ Q .normal) :=
  ⟨fun s hs => ⟨g, hp, hs.cov hE hS⟩⟩

def upR (b x : Rat) : Rat := if b < x then x else b

def eqD (xs ys : List Int) (i j : Nat) : Rat := ((max (nth ys i - nth ys j) (nth ys j - nth ys i) : Int) : Rat) / ((2 : Int) : Rat)

abbrev thC (xs : List Int) (i k j : Nat) : Prop := (nth xs i < nth xs j ∧ nth xs i ≤ nth xs k) ∧ nth xs k ≤ nth xs j

def tbK (xs ys : List Int) (i j : Nat) (b : Rat) : Nat → Rat
  | 0 => b
  | k + 1 => if thC xs i k j then upR (tbK xs ys i j b k) (thR xs ys i k j) else tbK xs ys i j b k

def tbE (xs ys : List Int) (i j : Nat) (b : Rat) : Rat := if nth xs i = nth xs j then upR b (eqD xs ys i j) else b

def tbJ (xs ys : List Int) (i : Nat) (b : Rat) : Nat → Rat
  | 0 => b
  | j + 1 => tbK xs ys i j (tbE xs ys i j (tbJ xs ys i b j)) xs.length

def tbI (xs ys : List Int) : Nat → Rat
  | 0 => ((0 : Int) : Rat)
  | i + 1 => tbJ xs ys i (tbI xs ys i) xs.length

noncomputable def tbX (xs ys : List Int) : AV := if Cloud xs ys then .tuple [frV (tbI xs ys xs.length), .bool true] else .tuple [fr0, .bool false]

theorem upR_fd {b x : Rat} (h : F48 b) (h' : F48 x) : F48 (upR b x) := by unfold upR; split <;> assumption

theorem eqD_fd {xs ys : List Int} (hp : Pts xs ys) (i j : Nat) : F48 (eqD xs ys i j) := by
  obtain ⟨b1, b2⟩ := hp.bd
  have y1 := b2.nth (by omega) i
  have y2 := b2.nth (by omega) j
  exact ⟨2, by omega, FD.div (by omega) (by omega)⟩

theorem tbK_fd {xs ys : List Int} (hp : Pts xs ys) {i j : Nat} {b : Rat} (h : F48 b) : ∀ k, F48 (tbK xs ys i j b k)
  | 0 => h
  | k + 1 => by
    have ih := tbK_fd hp (i := i) (j := j) h k
    rw [tbK]; split
    · rename_i hc
      exact upR_fd ih (thR_fd hp (by omega) k)
    · exact ih

theorem tbE_fd {xs ys : List Int} (hp : Pts xs ys) {i j : Nat} {b : Rat} (h : F48 b) : F48 (tbE xs ys i j b) := by
  unfold tbE; split
  · exact upR_fd h (eqD_fd hp i j)
  · exact h

theorem tbJ_fd {xs ys : List Int} (hp : Pts xs ys) {i : Nat} {b : Rat} (h : F48 b) : ∀ j, F48 (tbJ xs ys i b j)
  | 0 => h
  | j + 1 => tbK_fd hp (tbE_fd hp (tbJ_fd hp h j)) _

theorem tbI_fd {xs ys : List Int} (hp : Pts xs ys) : ∀ i, F48 (tbI xs ys i)
  | 0 => ⟨1, by omega, FD.int (by omega)⟩
  | i + 1 => tbJ_fd hp (tbI_fd hp i) _

end Go.Rx.Try
