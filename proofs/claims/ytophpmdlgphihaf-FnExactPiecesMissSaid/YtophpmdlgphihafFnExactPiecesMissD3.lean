import Derived.Test.YtophpmdlgphihafFnExactPiecesMissD2
namespace Go.Rx.Try
open Go.Proofs
set_option maxRecDepth 100000
set_option maxHeartbeats 8000000
set_option linter.unusedSimpArgs false
set_option linter.unusedVariables false

theorem specMiss_ok {H : Heap} {a : AV} {xs : List Int} {i k : Nat} (ha : Ints H a xs) (hS : Steps xs) (h1 : i < k) (h2 : k ≤ xs.length) :
    ACalls Try.prog fn_spec_miss [a, .int .i64 (i : Int), .int .i64 (k : Int)] H fun r H' => r = frV (pieR xs i k) ∧ H' = H := by
  refine ACalls.val ?_ rfl
  have hn := hS.2.2
  refine code_spec_miss.go [.roI a xs.length xs] ⟨⟨rfl, ha⟩, trivial⟩ (by simp) ?_
  unfold mc_spec_miss
  (repeat (first | refine gst (hk := ?_) | (with_reducible refine gc_drq ?_; intro _) | (show GO _ _ _ _ _ (⟨some _, none, _⟩ :: _) _; first | refine go_op (hk := ?_) | (refine go_nw (hk := ?_); intro u; try simp only [llc, lln, lna, lza]) | (refine go_np (hk := ?_); intro id)) | (show GQ _ _ _ _ _ _ _ (⟨some _, none, _⟩ :: _) _; first | refine gq_op (hk := ?_) | (refine gq_nw (hk := ?_); intro u; try simp only [llc, lln, lna, lza])) | (show GO _ _ _ _ _ (⟨none, none, _⟩ :: _) _; refine go_st (hk := ?_)) | (show GO _ _ _ _ _ (⟨_, some _, _⟩ :: _) _; first | refine go_in (hk := ?_) | refine go_out (hk := ?_) | refine go_void (hk := ?_)) | (show GQ _ _ _ _ _ _ _ (⟨_, some _, _⟩ :: _) _; first | refine gq_in (hk := ?_) | refine gq_out (hk := ?_) | refine gq_void (hk := ?_)) | (show GK _ _ _ _ (blockK _ _ _); refine gk_past rfl ?_) | (show GC _ _ _ _ _ (.cond _ _ _) _; first | refine gc_yes (h1 := ?_) | refine gc_no (h1 := ?_))))
  revert id; intro i6
  refine gc_up (k - i) (fun d => [(0, a), (2, .int .i64 (k : Int)), (6, .ptr i6 0), (7, .int .i64 ((k - i : Nat) : Int)), (8, .int .i64 (wsS xs i d)), (9, .int .i64 (wsQ xs i d)), (10, .int .i64 ((i + d : Nat) : Int))]) (fun _ => [cel0 i6, .roI a xs.length xs]) (hb := ?_)
  intro d hd I ν m hk
  obtain ⟨⟨a1, a2⟩, a3, a4⟩ := ws_bd hS.x i d
  (repeat (first | refine gst (hk := ?_) | (with_reducible refine gc_drq ?_; intro _) | (show GO _ _ _ _ _ (⟨some _, none, _⟩ :: _) _; first | refine go_op (hk := ?_) | (refine go_nw (hk := ?_); intro u; try simp only [llc, lln, lna, lza]) | (refine go_np (hk := ?_); intro id)) | (show GQ _ _ _ _ _ _ _ (⟨some _, none, _⟩ :: _) _; first | refine gq_op (hk := ?_) | (refine gq_nw (hk := ?_); intro u; try simp only [llc, lln, lna, lza])) | (show GO _ _ _ _ _ (⟨none, none, _⟩ :: _) _; refine go_st (hk := ?_)) | (show GO _ _ _ _ _ (⟨_, some _, _⟩ :: _) _; first | refine go_in (hk := ?_) | refine go_out (hk := ?_) | refine go_void (hk := ?_)) | (show GQ _ _ _ _ _ _ _ (⟨_, some _, _⟩ :: _) _; first | refine gq_in (hk := ?_) | refine gq_out (hk := ?_) | refine gq_void (hk := ?_)) | (show GK _ _ _ _ (blockK _ _ _); refine gk_past rfl ?_) | (show GC _ _ _ _ _ (.cond _ _ _) _; first | refine gc_yes (h1 := ?_) | refine gc_no (h1 := ?_))))
  refine gc_cond rfl (fun h => ?_) (fun h => ?_)
  · have hk := hk (by omega)
    have hx := hS.x (i + d)
    have m1 := absmul (k := nth xs (i + d)) (l := nth xs (i + d)) (A := 30) (B := 30) (by omega) (by omega) (by omega) (by omega)
    rw [show wsS xs i (d + 1) = wsS xs i d + nth xs (i + d) from rfl, show wsQ xs i (d + 1) = wsQ xs i d + nth xs (i + d) * nth xs (i + d) from rfl] at hk
    (repeat (first | refine gst (hk := ?_) | (with_reducible refine gc_drq ?_; intro _) | (show GO _ _ _ _ _ (⟨some _, none, _⟩ :: _) _; first | refine go_op (hk := ?_) | (refine go_nw (hk := ?_); intro u; try simp only [llc, lln, lna, lza]) | (refine go_np (hk := ?_); intro id)) | (show GQ _ _ _ _ _ _ _ (⟨some _, none, _⟩ :: _) _; first | refine gq_op (hk := ?_) | (refine gq_nw (hk := ?_); intro u; try simp only [llc, lln, lna, lza])) | (show GO _ _ _ _ _ (⟨none, none, _⟩ :: _) _; refine go_st (hk := ?_)) | (show GO _ _ _ _ _ (⟨_, some _, _⟩ :: _) _; first | refine go_in (hk := ?_) | refine go_out (hk := ?_) | refine go_void (hk := ?_)) | (show GQ _ _ _ _ _ _ _ (⟨_, some _, _⟩ :: _) _; first | refine gq_in (hk := ?_) | refine gq_out (hk := ?_) | refine gq_void (hk := ?_)) | (show GK _ _ _ _ (blockK _ _ _); refine gk_past rfl ?_) | (show GC _ _ _ _ _ (.cond _ _ _) _; first | refine gc_yes (h1 := ?_) | refine gc_no (h1 := ?_))))
    exact gk_next hk
  · obtain rfl : d = k - i := by omega
    have m1 := absmul (k := wsS xs i (k - i)) (l := wsS xs i (k - i)) (A := 240) (B := 240) (by omega) (by omega) (by omega) (by omega)
    have m2 : ((k - i : Nat) : Int) * wsQ xs i (k - i) ≤ 8 * 7200 := Int.mul_le_mul (by omega) (by omega) (by omega) (by omega)
    have m3 : 0 ≤ ((k - i : Nat) : Int) * wsQ xs i (k - i) := Int.mul_nonneg (by omega) (by omega)
    (repeat (first | refine gst (hk := ?_) | (with_reducible refine gc_drq ?_; intro _) | (show GO _ _ _ _ _ (⟨some _, none, _⟩ :: _) _; first | refine go_op (hk := ?_) | (refine go_nw (hk := ?_); intro u; try simp only [llc, lln, lna, lza]) | (refine go_np (hk := ?_); intro id)) | (show GQ _ _ _ _ _ _ _ (⟨some _, none, _⟩ :: _) _; first | refine gq_op (hk := ?_) | (refine gq_nw (hk := ?_); intro u; try simp only [llc, lln, lna, lza])) | (show GO _ _ _ _ _ (⟨none, none, _⟩ :: _) _; refine go_st (hk := ?_)) | (show GO _ _ _ _ _ (⟨_, some _, _⟩ :: _) _; first | refine go_in (hk := ?_) | refine go_out (hk := ?_) | refine go_void (hk := ?_)) | (show GQ _ _ _ _ _ _ _ (⟨_, some _, _⟩ :: _) _; first | refine gq_in (hk := ?_) | refine gq_out (hk := ?_) | refine gq_void (hk := ?_)) | (show GK _ _ _ _ (blockK _ _ _); refine gk_past rfl ?_) | (show GC _ _ _ _ _ (.cond _ _ _) _; first | refine gc_yes (h1 := ?_) | refine gc_no (h1 := ?_))))
    refine go_callp rfl code_spec_frac.callable (fun H hH => frac_ok (a := ((k - i : Nat) : Int) * wsQ xs i (k - i) - wsS xs i (k - i) * wsS xs i (k - i)) (b := ((k - i : Nat) : Int)) (by omega) (by omega) (by omega)) ?_
    rw [show ((((k - i : Nat) : Int) * wsQ xs i (k - i) - wsS xs i (k - i) * wsS xs i (k - i) : Int) : Rat) / (((k - i : Nat) : Int) : Rat) = pieR xs i k from rfl]
    (repeat (first | refine gst (hk := ?_) | (with_reducible refine gc_drq ?_; intro _) | (show GO _ _ _ _ _ (⟨some _, none, _⟩ :: _) _; first | refine go_op (hk := ?_) | (refine go_nw (hk := ?_); intro u; try simp only [llc, lln, lna, lza]) | (refine go_np (hk := ?_); intro id)) | (show GQ _ _ _ _ _ _ _ (⟨some _, none, _⟩ :: _) _; first | refine gq_op (hk := ?_) | (refine gq_nw (hk := ?_); intro u; try simp only [llc, lln, lna, lza])) | (show GO _ _ _ _ _ (⟨none, none, _⟩ :: _) _; refine go_st (hk := ?_)) | (show GO _ _ _ _ _ (⟨_, some _, _⟩ :: _) _; first | refine go_in (hk := ?_) | refine go_out (hk := ?_) | refine go_void (hk := ?_)) | (show GQ _ _ _ _ _ _ _ (⟨_, some _, _⟩ :: _) _; first | refine gq_in (hk := ?_) | refine gq_out (hk := ?_) | refine gq_void (hk := ?_)) | (show GK _ _ _ _ (blockK _ _ _); refine gk_past rfl ?_) | (show GC _ _ _ _ _ (.cond _ _ _) _; first | refine gc_yes (h1 := ?_) | refine gc_no (h1 := ?_))))
    exact gk_rets (rvs_c rfl (by exact Sel.auto) rfl rfl rvs_nil) fun H' hH => ⟨rfl, hH.leE⟩

def lmK (xs : List Int) (p k : Nat) : Rat := if k = 0 then ((0 : Int) : Rat) else dpF (· + ·) selR (pieR xs) p k

abbrev rowL (xs : List Int) (p : Nat) : List Rat := tabS (xs.length + 1) (lmK xs p)

abbrev lmCh (xs : List Int) (vs : List AV) (j : Nat) : Ch := ⟨.rw, nthV vs j, 2, xs.length + 1, frs (rowL xs j)⟩

abbrev lmS (xs : List Int) (vs : List AV) : Sig := (List.range vs.length).map (lmCh xs vs)

theorem nthV_app {vs : List AV} {v : AV} {j : Nat} (h : j < vs.length) : nthV (vs ++ [v]) j = nthV vs j := by
  rw [show nthV (vs ++ [v]) j = (vs ++ [v])[j]'(by simp; omega) from nthA_of _, show nthV vs j = vs[j] from nthA_of h, List.getElem_append_left h]

theorem nthV_last (vs : List AV) (v : AV) : nthV (vs ++ [v]) vs.length = v := by
  rw [show nthV (vs ++ [v]) vs.length = (vs ++ [v])[vs.length]'(by simp) from nthA_of _, List.getElem_append_right (Nat.le_refl _)]
  simp

theorem lmS_snoc (xs : List Int) (vs : List AV) (v : AV) : lmS xs (vs ++ [v]) = lmS xs vs ++ [⟨.rw, v, 2, xs.length + 1, frs (rowL xs vs.length)⟩] := by
  unfold lmS
  rw [List.length_append, List.length_singleton, List.range_succ, List.map_append]
  congr 1
  · refine List.map_congr_left fun j hj => ?_
    have hj := List.mem_range.1 hj
    unfold lmCh
    rw [nthV_app hj]
  · simp only [List.map_cons, List.map_nil, lmCh, nthV_last]

theorem lm_has' {xs : List Int} {vs : List AV} {j : Nat} (h : j < vs.length) (T : Sig) : Has (T ++ lmS xs vs) (nthV vs j) 2 (xs.length + 1) (frs (rowL xs j)) :=
  has_memk (c := lmCh xs vs j) (List.mem_append_right _ (List.mem_map.2 ⟨j, List.mem_range.2 h, rfl⟩)) (.inl rfl)

theorem fit9 {p q : Rat} (hp : FD p 840 2000000000) (hq : FD q 840 2000000000) : FitA p q := fitA_of hp hq (by omega) (by omega) (by omega)

theorem Steps.dp_fd {xs : List Int} (h : Steps xs) {p k : Nat} (h1 : 1 ≤ k) (h2 : k ≤ xs.length) : FD (dpF (· + ·) selR (pieR xs) p k) 840 774144000 := by
  obtain ⟨⟨q, g1, g2⟩, _⟩ := dp_least cstR selR_ok (pieR xs) p k h1
  have hn := h.2.2
  have := g2.lt
  exact (cuts_fd h.x g2 (by omega)).mono (by omega)

theorem Steps.pie_fd {xs : List Int} (h : Steps xs) {i k : Nat} (h1 : i < k) (h2 : k ≤ xs.length) : FD (pieR xs i k) 840 96768000 := by
  have hn := h.2.2
  exact pie_fd2 h.x h1 (by omega)

theorem seq_fd {v0 : Rat} {g : Nat → Rat} {D B : Int} {m : Nat} (h0 : FD v0 D B) (hg : ∀ j, 1 ≤ j → j ≤ m → FD (g j) D B) : FD (seqm selR v0 g m) D B := by
  rcases (seqm_is cstR selR_ok v0 g m).1 with e | ⟨j, h1, h2, e⟩
  · rw [e]; exact h0
  · rw [e]; exact hg j h1 h2

/-- a candidate: the pieces of the first i numbers, and one up to k -/
def caF (xs : List Int) (p k i : Nat) : Rat := dpF (· + ·) selR (pieR xs) p i + pieR xs i k

theorem Steps.ca_fd {xs : List Int} (h : Steps xs) {p k i : Nat} (h1 : 1 ≤ i) (h2 : i < k) (h3 : k ≤ xs.length) : FD (caF xs p k i) 840 870912000 :=
  ((h.dp_fd h1 (by omega)).add (h.pie_fd h2 h3)).mono (by omega)

theorem dMiss_ok {A : Heap} {X : List Nat} {S : Sig} {H0 H : Heap} {a : AV} {xs : List Int} {i k : Nat} (hH0 : SOk A X S H0.size H0) (hg : ∀ id, id < H0.size → H.get id = H0.get id) (ha : Has S a 1 xs.length (ints xs)) (hS : Steps xs) (h1 : i < k) (h2 : k ≤ xs.length) :
    ACalls Try.prog fn_spec_miss [a, .int .i64 (i : Int), .int .i64 (k : Int)] H fun r H' => r = frV (pieR xs i k) ∧ H' = H :=
  acalls_vals (hH0.ints ha) hg (by omega) fun ha' => specMiss_ok ha' hS h1 h2

theorem sub_snoc (c : Ch) : ∀ L : Sig, Sub (c :: L) (L ++ [c])
  | [] => sub_refl _
  | _ :: L => .cons (.tail .head) (sub_snoc c L)

theorem specLeastMisses_ok {A : Heap} {X : List Nat} {S : Sig} {H : Heap} {a : AV} {xs : List Int} {P : Nat} (hS : SOk A X S H.size H) (ha : Ints H a xs) (hSt : Steps xs) (hP : 1 ≤ P ∧ P ≤ 8) :
    ACalls Try.prog fn_spec_leastMisses [a, .int .i64 (P : Int)] H fun r H' => ∃ g : AV × List AV, r = g.1 ∧ SOk A X ((⟨.rw, g.1, 1, g.2.length, g.2⟩ :: lmS xs g.2) ++ S) H'.size H' ∧ g.2.length = P := by
  have hn := hSt.2.2
  have hn1 := hSt.2.1
  refine code_spec_leastMisses.gon (R := [.roI a xs.length xs]) (V := fun g : AV × List AV => g.1) (T := fun g => ⟨.rw, g.1, 1, g.2.length, g.2⟩ :: lmS xs g.2) (Φ := fun g => g.2.length = P) hS ⟨⟨rfl, ha⟩, trivial⟩ (fun g => by simp [Kd.wr]) (by simp) ?_
  unfold mc_spec_leastMisses
  (repeat (first | refine gst (hk := ?_) | (with_reducible first | (refine gc_drw (h := ?_); intro _) | (refine gc_drw2 (h := ?_); intro _)) | (show GO _ _ _ _ _ (⟨some _, none, _⟩ :: _) _; first | refine go_op (hk := ?_) | (refine go_nw (hk := ?_); intro u; try simp only [llc, lln, lna, lza]) | (refine go_np (hk := ?_); intro id)) | (show GD _ _ _ _ _ _ _ (⟨some _, none, _⟩ :: _) _; first | refine gd_op (hk := ?_) | (refine gd_nw (hk := ?_); intro u; try simp only [llc, lln, lna, lza])) | (show GD2 _ _ _ _ _ _ _ _ _ _ _ _ _ _; first | refine gd2_nil rfl ?_ | refine gd2_op (hk := ?_) | (refine gd2_nw (hk := ?_); intro u; try simp only [llc, lln, lna, lza]) | refine gd2_l (hk := ?_) | refine gd2_lp (hk := ?_) | (refine gd2_newp (hk := ?_); intro id) | refine gd2_st (hk := ?_) | (refine gd2_bsl rfl rfl ?_; intro u; try simp only [llc, lln, lna, lza]) | (refine gd2_a (hk := ?_); intro u; try simp only [llc, lln, lna, lza])) | (show GO _ _ _ _ _ (⟨none, none, _⟩ :: _) _; refine go_st (hk := ?_)) | (show GD _ _ _ _ _ _ _ (⟨none, none, _⟩ :: _) _; refine gd_st (hk := ?_)) | (show GO _ _ _ _ _ (⟨_, some _, _⟩ :: _) _; first | refine go_in (hk := ?_) | refine go_out (hk := ?_) | refine go_void (hk := ?_)) | (show GK _ _ _ _ (blockK _ _ _); refine gk_past rfl ?_) | (show GC _ _ _ _ _ (.cond _ _ _) _; first | refine gc_yes (h1 := ?_) | refine gc_no (h1 := ?_))))
  revert u; intro u6
  refine go_callp rfl code_spec_frac.callable (fun H hH => frac_ok (a := 0) (b := 1) (by omega) (by omega) (by omega)) ?_
  rw [rat_one]
  refine go_new rfl (stp_bslF rfl) ?_
  intro u7
  (repeat (first | refine gst (hk := ?_) | (with_reducible first | (refine gc_drw (h := ?_); intro _) | (refine gc_drw2 (h := ?_); intro _)) | (show GO _ _ _ _ _ (⟨some _, none, _⟩ :: _) _; first | refine go_op (hk := ?_) | (refine go_nw (hk := ?_); intro u; try simp only [llc, lln, lna, lza]) | (refine go_np (hk := ?_); intro id)) | (show GD _ _ _ _ _ _ _ (⟨some _, none, _⟩ :: _) _; first | refine gd_op (hk := ?_) | (refine gd_nw (hk := ?_); intro u; try simp only [llc, lln, lna, lza])) | (show GD2 _ _ _ _ _ _ _ _ _ _ _ _ _ _; first | refine gd2_nil rfl ?_ | refine gd2_op (hk := ?_) | (refine gd2_nw (hk := ?_); intro u; try simp only [llc, lln, lna, lza]) | refine gd2_l (hk := ?_) | refine gd2_lp (hk := ?_) | (refine gd2_newp (hk := ?_); intro id) | refine gd2_st (hk := ?_) | (refine gd2_bsl rfl rfl ?_; intro u; try simp only [llc, lln, lna, lza]) | (refine gd2_a (hk := ?_); intro u; try simp only [llc, lln, lna, lza])) | (show GO _ _ _ _ _ (⟨none, none, _⟩ :: _) _; refine go_st (hk := ?_)) | (show GD _ _ _ _ _ _ _ (⟨none, none, _⟩ :: _) _; refine gd_st (hk := ?_)) | (show GO _ _ _ _ _ (⟨_, some _, _⟩ :: _) _; first | refine go_in (hk := ?_) | refine go_out (hk := ?_) | refine go_void (hk := ?_)) | (show GK _ _ _ _ (blockK _ _ _); refine gk_past rfl ?_) | (show GC _ _ _ _ _ (.cond _ _ _) _; first | refine gc_yes (h1 := ?_) | refine gc_no (h1 := ?_))))
  refine gc_upv xs.length (fun d v => [(0, a), (1, .int .i64 (P : Int)), (5, .int .i64 (xs.length : Int)), (6, u6), (7, v), (8, .int .i64 ((d + 1 : Nat) : Int))]) (fun d v => [rwF v (d + 1) (tabS (d + 1) (lmK xs 0)), ⟨.rw, u6, 1, 0, []⟩, .roI a xs.length xs]) u7 (hb := ?_)
  intro d v hd I ν m hk
  (repeat (first | refine gst (hk := ?_) | (with_reducible first | (refine gc_drw (h := ?_); intro _) | (refine gc_drw2 (h := ?_); intro _)) | (show GO _ _ _ _ _ (⟨some _, none, _⟩ :: _) _; first | refine go_op (hk := ?_) | (refine go_nw (hk := ?_); intro u; try simp only [llc, lln, lna, lza]) | (refine go_np (hk := ?_); intro id)) | (show GD _ _ _ _ _ _ _ (⟨some _, none, _⟩ :: _) _; first | refine gd_op (hk := ?_) | (refine gd_nw (hk := ?_); intro u; try simp only [llc, lln, lna, lza])) | (show GD2 _ _ _ _ _ _ _ _ _ _ _ _ _ _; first | refine gd2_nil rfl ?_ | refine gd2_op (hk := ?_) | (refine gd2_nw (hk := ?_); intro u; try simp only [llc, lln, lna, lza]) | refine gd2_l (hk := ?_) | refine gd2_lp (hk := ?_) | (refine gd2_newp (hk := ?_); intro id) | refine gd2_st (hk := ?_) | (refine gd2_bsl rfl rfl ?_; intro u; try simp only [llc, lln, lna, lza]) | (refine gd2_a (hk := ?_); intro u; try simp only [llc, lln, lna, lza])) | (show GO _ _ _ _ _ (⟨none, none, _⟩ :: _) _; refine go_st (hk := ?_)) | (show GD _ _ _ _ _ _ _ (⟨none, none, _⟩ :: _) _; refine gd_st (hk := ?_)) | (show GO _ _ _ _ _ (⟨_, some _, _⟩ :: _) _; first | refine go_in (hk := ?_) | refine go_out (hk := ?_) | refine go_void (hk := ?_)) | (show GK _ _ _ _ (blockK _ _ _); refine gk_past rfl ?_) | (show GC _ _ _ _ _ (.cond _ _ _) _; first | refine gc_yes (h1 := ?_) | refine gc_no (h1 := ?_))))
  refine gc_cond rfl (fun h => ?_) (fun h => ?_)
  · have hk := hk (by omega)
    (repeat (first | refine gst (hk := ?_) | (with_reducible first | (refine gc_drw (h := ?_); intro _) | (refine gc_drw2 (h := ?_); intro _)) | (show GO _ _ _ _ _ (⟨some _, none, _⟩ :: _) _; first | refine go_op (hk := ?_) | (refine go_nw (hk := ?_); intro u; try simp only [llc, lln, lna, lza]) | (refine go_np (hk := ?_); intro id)) | (show GD _ _ _ _ _ _ _ (⟨some _, none, _⟩ :: _) _; first | refine gd_op (hk := ?_) | (refine gd_nw (hk := ?_); intro u; try simp only [llc, lln, lna, lza])) | (show GD2 _ _ _ _ _ _ _ _ _ _ _ _ _ _; first | refine gd2_nil rfl ?_ | refine gd2_op (hk := ?_) | (refine gd2_nw (hk := ?_); intro u; try simp only [llc, lln, lna, lza]) | refine gd2_l (hk := ?_) | refine gd2_lp (hk := ?_) | (refine gd2_newp (hk := ?_); intro id) | refine gd2_st (hk := ?_) | (refine gd2_bsl rfl rfl ?_; intro u; try simp only [llc, lln, lna, lza]) | (refine gd2_a (hk := ?_); intro u; try simp only [llc, lln, lna, lza])) | (show GO _ _ _ _ _ (⟨none, none, _⟩ :: _) _; refine go_st (hk := ?_)) | (show GD _ _ _ _ _ _ _ (⟨none, none, _⟩ :: _) _; refine gd_st (hk := ?_)) | (show GO _ _ _ _ _ (⟨_, some _, _⟩ :: _) _; first | refine go_in (hk := ?_) | refine go_out (hk := ?_) | refine go_void (hk := ?_)) | (show GK _ _ _ _ (blockK _ _ _); refine gk_past rfl ?_) | (show GC _ _ _ _ _ (.cond _ _ _) _; first | refine gc_yes (h1 := ?_) | refine gc_no (h1 := ?_))))
    refine go_callp rfl code_spec_miss.callable (fun H hH => specMiss_ok (i := 0) (k := d + 1) (hH.ints (by exact Has.auto)) hSt (by omega) (by omega)) ?_
    refine go_new rfl (stp_bslF rfl) ?_
    intro u1
    refine go_new rfl (stp_appF (v := v) (n := d + 1) (m' := 1) (L := tabS (d + 1) (lmK xs 0)) (M := [pieR xs 0 (d + 1)]) rfl rfl (by exact Sel.auto) (by exact Has.auto) (by omega)) ?_
    intro u2
    have e : tabS (d + 1) (lmK xs 0) ++ [pieR xs 0 (d + 1)] = tabS (d + 1 + 1) (lmK xs 0) := by
      rw [← tabS_snoc (d + 1) (lmK xs 0), show lmK xs 0 (d + 1) = pieR xs 0 (d + 1) from if_neg (by omega)]
    rw [e]
    (repeat (first | refine gst (hk := ?_) | (with_reducible first | (refine gc_drw (h := ?_); intro _) | (refine gc_drw2 (h := ?_); intro _)) | (show GO _ _ _ _ _ (⟨some _, none, _⟩ :: _) _; first | refine go_op (hk := ?_) | (refine go_nw (hk := ?_); intro u; try simp only [llc, lln, lna, lza]) | (refine go_np (hk := ?_); intro id)) | (show GD _ _ _ _ _ _ _ (⟨some _, none, _⟩ :: _) _; first | refine gd_op (hk := ?_) | (refine gd_nw (hk := ?_); intro u; try simp only [llc, lln, lna, lza])) | (show GD2 _ _ _ _ _ _ _ _ _ _ _ _ _ _; first | refine gd2_nil rfl ?_ | refine gd2_op (hk := ?_) | (refine gd2_nw (hk := ?_); intro u; try simp only [llc, lln, lna, lza]) | refine gd2_l (hk := ?_) | refine gd2_lp (hk := ?_) | (refine gd2_newp (hk := ?_); intro id) | refine gd2_st (hk := ?_) | (refine gd2_bsl rfl rfl ?_; intro u; try simp only [llc, lln, lna, lza]) | (refine gd2_a (hk := ?_); intro u; try simp only [llc, lln, lna, lza])) | (show GO _ _ _ _ _ (⟨none, none, _⟩ :: _) _; refine go_st (hk := ?_)) | (show GD _ _ _ _ _ _ _ (⟨none, none, _⟩ :: _) _; refine gd_st (hk := ?_)) | (show GO _ _ _ _ _ (⟨_, some _, _⟩ :: _) _; first | refine go_in (hk := ?_) | refine go_out (hk := ?_) | refine go_void (hk := ?_)) | (show GK _ _ _ _ (blockK _ _ _); refine gk_past rfl ?_) | (show GC _ _ _ _ _ (.cond _ _ _) _; first | refine gc_yes (h1 := ?_) | refine gc_no (h1 := ?_))))
    exact gk_next (hk u2)
  obtain rfl : d = xs.length := by omega
  (repeat (first | refine gst (hk := ?_) | (with_reducible first | (refine gc_drw (h := ?_); intro _) | (refine gc_drw2 (h := ?_); intro _)) | (show GO _ _ _ _ _ (⟨some _, none, _⟩ :: _) _; first | refine go_op (hk := ?_) | (refine go_nw (hk := ?_); intro u; try simp only [llc, lln, lna, lza]) | (refine go_np (hk := ?_); intro id)) | (show GD _ _ _ _ _ _ _ (⟨some _, none, _⟩ :: _) _; first | refine gd_op (hk := ?_) | (refine gd_nw (hk := ?_); intro u; try simp only [llc, lln, lna, lza])) | (show GD2 _ _ _ _ _ _ _ _ _ _ _ _ _ _; first | refine gd2_nil rfl ?_ | refine gd2_op (hk := ?_) | (refine gd2_nw (hk := ?_); intro u; try simp only [llc, lln, lna, lza]) | refine gd2_l (hk := ?_) | refine gd2_lp (hk := ?_) | (refine gd2_newp (hk := ?_); intro id) | refine gd2_st (hk := ?_) | (refine gd2_bsl rfl rfl ?_; intro u; try simp only [llc, lln, lna, lza]) | (refine gd2_a (hk := ?_); intro u; try simp only [llc, lln, lna, lza])) | (show GO _ _ _ _ _ (⟨none, none, _⟩ :: _) _; refine go_st (hk := ?_)) | (show GD _ _ _ _ _ _ _ (⟨none, none, _⟩ :: _) _; refine gd_st (hk := ?_)) | (show GO _ _ _ _ _ (⟨_, some _, _⟩ :: _) _; first | refine go_in (hk := ?_) | refine go_out (hk := ?_) | refine go_void (hk := ?_)) | (show GK _ _ _ _ (blockK _ _ _); refine gk_past rfl ?_) | (show GC _ _ _ _ _ (.cond _ _ _) _; first | refine gc_yes (h1 := ?_) | refine gc_no (h1 := ?_))))
  refine go_know (p := OneC v) (fun m H hH => one_slice (hH.valsA .rw)) (fun ho => ?_)
  refine go_new rfl (stp_bslv rfl ho.1 ho.2) ?_
  intro w
  refine go_new rfl (stp_app (v := u6) (es := 1) (n := 0) (m' := 1) (cs := []) (news := [v]) rfl rfl (by exact Sel.auto) .rw (by simp [ho.2]) (by omega) (by omega) (by omega)) ?_
  intro u34
  (repeat (first | refine gst (hk := ?_) | (with_reducible first | (refine gc_drw (h := ?_); intro _) | (refine gc_drw2 (h := ?_); intro _)) | (show GO _ _ _ _ _ (⟨some _, none, _⟩ :: _) _; first | refine go_op (hk := ?_) | (refine go_nw (hk := ?_); intro u; try simp only [llc, lln, lna, lza]) | (refine go_np (hk := ?_); intro id)) | (show GD _ _ _ _ _ _ _ (⟨some _, none, _⟩ :: _) _; first | refine gd_op (hk := ?_) | (refine gd_nw (hk := ?_); intro u; try simp only [llc, lln, lna, lza])) | (show GD2 _ _ _ _ _ _ _ _ _ _ _ _ _ _; first | refine gd2_nil rfl ?_ | refine gd2_op (hk := ?_) | (refine gd2_nw (hk := ?_); intro u; try simp only [llc, lln, lna, lza]) | refine gd2_l (hk := ?_) | refine gd2_lp (hk := ?_) | (refine gd2_newp (hk := ?_); intro id) | refine gd2_st (hk := ?_) | (refine gd2_bsl rfl rfl ?_; intro u; try simp only [llc, lln, lna, lza]) | (refine gd2_a (hk := ?_); intro u; try simp only [llc, lln, lna, lza])) | (show GO _ _ _ _ _ (⟨none, none, _⟩ :: _) _; refine go_st (hk := ?_)) | (show GD _ _ _ _ _ _ _ (⟨none, none, _⟩ :: _) _; refine gd_st (hk := ?_)) | (show GO _ _ _ _ _ (⟨_, some _, _⟩ :: _) _; first | refine go_in (hk := ?_) | refine go_out (hk := ?_) | refine go_void (hk := ?_)) | (show GK _ _ _ _ (blockK _ _ _); refine gk_past rfl ?_) | (show GC _ _ _ _ _ (.cond _ _ _) _; first | refine gc_yes (h1 := ?_) | refine gc_no (h1 := ?_))))
  refine gc_loop (γ := AV × List AV) (fun g => [(0, a), (1, .int .i64 (P : Int)), (5, .int .i64 (xs.length : Int)), (6, g.1), (9, .int .i64 ((g.2.length + 1 : Nat) : Int))]) (fun g => [⟨.rw, g.1, 1, g.2.length, g.2⟩, .roI a xs.length xs] ++ lmS xs g.2) (fun g => 1 ≤ g.2.length ∧ g.2.length ≤ P ∧ ∀ z ∈ g.2, OneC z) (fun g => P - g.2.length) (u34, [v]) ⟨by simp, by simp; omega, by simpa using ho⟩ (hS := ?_) (hb := ?_)
  · show Sub _ [⟨.rw, u34, 1, 1, [v]⟩, .roI a xs.length xs, lmCh xs [v] 0]
    rw [show lmCh xs [v] 0 = rwF v (xs.length + 1) (tabS (xs.length + 1) (lmK xs 0)) from rfl]
    exact Sub.auto
  rintro ⟨u, vs⟩ ⟨hm1, hm2, hone⟩ I2 ν2 m2 hk2
  simp only at hm1 hm2 hone
  (repeat (first | refine gst (hk := ?_) | (with_reducible first | (refine gc_drw (h := ?_); intro _) | (refine gc_drw2 (h := ?_); intro _)) | (show GO _ _ _ _ _ (⟨some _, none, _⟩ :: _) _; first | refine go_op (hk := ?_) | (refine go_nw (hk := ?_); intro u; try simp only [llc, lln, lna, lza]) | (refine go_np (hk := ?_); intro id)) | (show GD _ _ _ _ _ _ _ (⟨some _, none, _⟩ :: _) _; first | refine gd_op (hk := ?_) | (refine gd_nw (hk := ?_); intro u; try simp only [llc, lln, lna, lza])) | (show GD2 _ _ _ _ _ _ _ _ _ _ _ _ _ _; first | refine gd2_nil rfl ?_ | refine gd2_op (hk := ?_) | (refine gd2_nw (hk := ?_); intro u; try simp only [llc, lln, lna, lza]) | refine gd2_l (hk := ?_) | refine gd2_lp (hk := ?_) | (refine gd2_newp (hk := ?_); intro id) | refine gd2_st (hk := ?_) | (refine gd2_bsl rfl rfl ?_; intro u; try simp only [llc, lln, lna, lza]) | (refine gd2_a (hk := ?_); intro u; try simp only [llc, lln, lna, lza])) | (show GO _ _ _ _ _ (⟨none, none, _⟩ :: _) _; refine go_st (hk := ?_)) | (show GD _ _ _ _ _ _ _ (⟨none, none, _⟩ :: _) _; refine gd_st (hk := ?_)) | (show GO _ _ _ _ _ (⟨_, some _, _⟩ :: _) _; first | refine go_in (hk := ?_) | refine go_out (hk := ?_) | refine go_void (hk := ?_)) | (show GK _ _ _ _ (blockK _ _ _); refine gk_past rfl ?_) | (show GC _ _ _ _ _ (.cond _ _ _) _; first | refine gc_yes (h1 := ?_) | refine gc_no (h1 := ?_))))
  refine gc_cond rfl (fun h => ?_) (fun h => ?_)
  · simp only at h
    obtain ⟨j, hj⟩ : ∃ j, vs.length = j + 1 := ⟨vs.length - 1, by omega⟩
    have hrow : OneC (nthV vs j) := hone _ (by rw [show nthV vs j = vs[j]'(by omega) from nthA_of (by omega)]; exact List.getElem_mem _)
    (repeat (first | refine gst (hk := ?_) | (with_reducible first | (refine gc_drw (h := ?_); intro _) | (refine gc_drw2 (h := ?_); intro _)) | (show GO _ _ _ _ _ (⟨some _, none, _⟩ :: _) _; first | refine go_op (hk := ?_) | (refine go_nw (hk := ?_); intro u; try simp only [llc, lln, lna, lza]) | (refine go_np (hk := ?_); intro id)) | (show GD _ _ _ _ _ _ _ (⟨some _, none, _⟩ :: _) _; first | refine gd_op (hk := ?_) | (refine gd_nw (hk := ?_); intro u; try simp only [llc, lln, lna, lza])) | (show GD2 _ _ _ _ _ _ _ _ _ _ _ _ _ _; first | refine gd2_nil rfl ?_ | refine gd2_op (hk := ?_) | (refine gd2_nw (hk := ?_); intro u; try simp only [llc, lln, lna, lza]) | refine gd2_l (hk := ?_) | refine gd2_lp (hk := ?_) | (refine gd2_newp (hk := ?_); intro id) | refine gd2_st (hk := ?_) | (refine gd2_bsl rfl rfl ?_; intro u; try simp only [llc, lln, lna, lza]) | (refine gd2_a (hk := ?_); intro u; try simp only [llc, lln, lna, lza])) | (show GO _ _ _ _ _ (⟨none, none, _⟩ :: _) _; refine go_st (hk := ?_)) | (show GD _ _ _ _ _ _ _ (⟨none, none, _⟩ :: _) _; refine gd_st (hk := ?_)) | (show GO _ _ _ _ _ (⟨_, some _, _⟩ :: _) _; first | refine go_in (hk := ?_) | refine go_out (hk := ?_) | refine go_void (hk := ?_)) | (show GK _ _ _ _ (blockK _ _ _); refine gk_past rfl ?_) | (show GC _ _ _ _ _ (.cond _ _ _) _; first | refine gc_yes (h1 := ?_) | refine gc_no (h1 := ?_))))
    refine go_callp rfl code_spec_frac.callable (fun H hH => frac_ok (a := 0) (b := 1) (by omega) (by omega) (by omega)) ?_
    rw [rat_one]
    refine go_new rfl (stp_bslF rfl) ?_
    intro u10
    (repeat (first | refine gst (hk := ?_) | (with_reducible first | (refine gc_drw (h := ?_); intro _) | (refine gc_drw2 (h := ?_); intro _)) | (show GO _ _ _ _ _ (⟨some _, none, _⟩ :: _) _; first | refine go_op (hk := ?_) | (refine go_nw (hk := ?_); intro u; try simp only [llc, lln, lna, lza]) | (refine go_np (hk := ?_); intro id)) | (show GD _ _ _ _ _ _ _ (⟨some _, none, _⟩ :: _) _; first | refine gd_op (hk := ?_) | (refine gd_nw (hk := ?_); intro u; try simp only [llc, lln, lna, lza])) | (show GD2 _ _ _ _ _ _ _ _ _ _ _ _ _ _; first | refine gd2_nil rfl ?_ | refine gd2_op (hk := ?_) | (refine gd2_nw (hk := ?_); intro u; try simp only [llc, lln, lna, lza]) | refine gd2_l (hk := ?_) | refine gd2_lp (hk := ?_) | (refine gd2_newp (hk := ?_); intro id) | refine gd2_st (hk := ?_) | (refine gd2_bsl rfl rfl ?_; intro u; try simp only [llc, lln, lna, lza]) | (refine gd2_a (hk := ?_); intro u; try simp only [llc, lln, lna, lza])) | (show GO _ _ _ _ _ (⟨none, none, _⟩ :: _) _; refine go_st (hk := ?_)) | (show GD _ _ _ _ _ _ _ (⟨none, none, _⟩ :: _) _; refine gd_st (hk := ?_)) | (show GO _ _ _ _ _ (⟨_, some _, _⟩ :: _) _; first | refine go_in (hk := ?_) | refine go_out (hk := ?_) | refine go_void (hk := ?_)) | (show GK _ _ _ _ (blockK _ _ _); refine gk_past rfl ?_) | (show GC _ _ _ _ _ (.cond _ _ _) _; first | refine gc_yes (h1 := ?_) | refine gc_no (h1 := ?_))))
    refine gc_upv xs.length (fun d v => [(0, a), (1, .int .i64 (P : Int)), (5, .int .i64 (xs.length : Int)), (6, u), (9, .int .i64 ((vs.length + 1 : Nat) : Int)), (10, v), (11, .int .i64 ((d + 1 : Nat) : Int))]) (fun d v => [rwF v (d + 1) (tabS (d + 1) (lmK xs vs.length)), ⟨.rw, u, 1, vs.length, vs⟩, .roI a xs.length xs] ++ lmS xs vs) u10 (hS := Sub.cons .head (.cons .head (.cons .head (sub_refl _)))) (hb := ?_)
    intro d v hd I3 ν3 m3 hk3
    (repeat (first | refine gst (hk := ?_) | (with_reducible first | (refine gc_drw (h := ?_); intro _) | (refine gc_drw2 (h := ?_); intro _)) | (show GO _ _ _ _ _ (⟨some _, none, _⟩ :: _) _; first | refine go_op (hk := ?_) | (refine go_nw (hk := ?_); intro u; try simp only [llc, lln, lna, lza]) | (refine go_np (hk := ?_); intro id)) | (show GD _ _ _ _ _ _ _ (⟨some _, none, _⟩ :: _) _; first | refine gd_op (hk := ?_) | (refine gd_nw (hk := ?_); intro u; try simp only [llc, lln, lna, lza])) | (show GD2 _ _ _ _ _ _ _ _ _ _ _ _ _ _; first | refine gd2_nil rfl ?_ | refine gd2_op (hk := ?_) | (refine gd2_nw (hk := ?_); intro u; try simp only [llc, lln, lna, lza]) | refine gd2_l (hk := ?_) | refine gd2_lp (hk := ?_) | (refine gd2_newp (hk := ?_); intro id) | refine gd2_st (hk := ?_) | (refine gd2_bsl rfl rfl ?_; intro u; try simp only [llc, lln, lna, lza]) | (refine gd2_a (hk := ?_); intro u; try simp only [llc, lln, lna, lza])) | (show GO _ _ _ _ _ (⟨none, none, _⟩ :: _) _; refine go_st (hk := ?_)) | (show GD _ _ _ _ _ _ _ (⟨none, none, _⟩ :: _) _; refine gd_st (hk := ?_)) | (show GO _ _ _ _ _ (⟨_, some _, _⟩ :: _) _; first | refine go_in (hk := ?_) | refine go_out (hk := ?_) | refine go_void (hk := ?_)) | (show GK _ _ _ _ (blockK _ _ _); refine gk_past rfl ?_) | (show GC _ _ _ _ _ (.cond _ _ _) _; first | refine gc_yes (h1 := ?_) | refine gc_no (h1 := ?_))))
    refine gc_cond rfl (fun h2 => ?_) (fun h2 => ?_)
    · have hk3 := hk3 (by omega)
      have ej : (((vs.length + 1 : Nat) : Int) - 2).toNat = j := by omega
      (repeat (first | refine gst (hk := ?_) | (with_reducible first | (refine gc_drw (h := ?_); intro _) | (refine gc_drw2 (h := ?_); intro _)) | (show GO _ _ _ _ _ (⟨some _, none, _⟩ :: _) _; first | refine go_op (hk := ?_) | (refine go_nw (hk := ?_); intro u; try simp only [llc, lln, lna, lza]) | (refine go_np (hk := ?_); intro id)) | (show GD _ _ _ _ _ _ _ (⟨some _, none, _⟩ :: _) _; first | refine gd_op (hk := ?_) | (refine gd_nw (hk := ?_); intro u; try simp only [llc, lln, lna, lza])) | (show GD2 _ _ _ _ _ _ _ _ _ _ _ _ _ _; first | refine gd2_nil rfl ?_ | refine gd2_op (hk := ?_) | (refine gd2_nw (hk := ?_); intro u; try simp only [llc, lln, lna, lza]) | refine gd2_l (hk := ?_) | refine gd2_lp (hk := ?_) | (refine gd2_newp (hk := ?_); intro id) | refine gd2_st (hk := ?_) | (refine gd2_bsl rfl rfl ?_; intro u; try simp only [llc, lln, lna, lza]) | (refine gd2_a (hk := ?_); intro u; try simp only [llc, lln, lna, lza])) | (show GO _ _ _ _ _ (⟨none, none, _⟩ :: _) _; refine go_st (hk := ?_)) | (show GD _ _ _ _ _ _ _ (⟨none, none, _⟩ :: _) _; refine gd_st (hk := ?_)) | (show GO _ _ _ _ _ (⟨_, some _, _⟩ :: _) _; first | refine go_in (hk := ?_) | refine go_out (hk := ?_) | refine go_void (hk := ?_)) | (show GK _ _ _ _ (blockK _ _ _); refine gk_past rfl ?_) | (show GC _ _ _ _ _ (.cond _ _ _) _; first | refine gc_yes (h1 := ?_) | refine gc_no (h1 := ?_))))
      rw [ej]
      refine go_is rfl (stp_ldV (i := j) rfl (by exact Has.auto) rfl (by omega)) ?_
      (repeat (first | refine gst (hk := ?_) | (with_reducible first | (refine gc_drw (h := ?_); intro _) | (refine gc_drw2 (h := ?_); intro _)) | (show GO _ _ _ _ _ (⟨some _, none, _⟩ :: _) _; first | refine go_op (hk := ?_) | (refine go_nw (hk := ?_); intro u; try simp only [llc, lln, lna, lza]) | (refine go_np (hk := ?_); intro id)) | (show GD _ _ _ _ _ _ _ (⟨some _, none, _⟩ :: _) _; first | refine gd_op (hk := ?_) | (refine gd_nw (hk := ?_); intro u; try simp only [llc, lln, lna, lza])) | (show GD2 _ _ _ _ _ _ _ _ _ _ _ _ _ _; first | refine gd2_nil rfl ?_ | refine gd2_op (hk := ?_) | (refine gd2_nw (hk := ?_); intro u; try simp only [llc, lln, lna, lza]) | refine gd2_l (hk := ?_) | refine gd2_lp (hk := ?_) | (refine gd2_newp (hk := ?_); intro id) | refine gd2_st (hk := ?_) | (refine gd2_bsl rfl rfl ?_; intro u; try simp only [llc, lln, lna, lza]) | (refine gd2_a (hk := ?_); intro u; try simp only [llc, lln, lna, lza])) | (show GO _ _ _ _ _ (⟨none, none, _⟩ :: _) _; refine go_st (hk := ?_)) | (show GD _ _ _ _ _ _ _ (⟨none, none, _⟩ :: _) _; refine gd_st (hk := ?_)) | (show GO _ _ _ _ _ (⟨_, some _, _⟩ :: _) _; first | refine go_in (hk := ?_) | refine go_out (hk := ?_) | refine go_void (hk := ?_)) | (show GK _ _ _ _ (blockK _ _ _); refine gk_past rfl ?_) | (show GC _ _ _ _ _ (.cond _ _ _) _; first | refine gc_yes (h1 := ?_) | refine gc_no (h1 := ?_))))
      refine go_is rfl (stp_ixa (i := d + 1) rfl rfl (lm_has' (show j < vs.length by omega) [_, _, _]) (by omega)) ?_
      (repeat (first | refine gst (hk := ?_) | (with_reducible first | (refine gc_drw (h := ?_); intro _) | (refine gc_drw2 (h := ?_); intro _)) | (show GO _ _ _ _ _ (⟨some _, none, _⟩ :: _) _; first | refine go_op (hk := ?_) | (refine go_nw (hk := ?_); intro u; try simp only [llc, lln, lna, lza]) | (refine go_np (hk := ?_); intro id)) | (show GD _ _ _ _ _ _ _ (⟨some _, none, _⟩ :: _) _; first | refine gd_op (hk := ?_) | (refine gd_nw (hk := ?_); intro u; try simp only [llc, lln, lna, lza])) | (show GD2 _ _ _ _ _ _ _ _ _ _ _ _ _ _; first | refine gd2_nil rfl ?_ | refine gd2_op (hk := ?_) | (refine gd2_nw (hk := ?_); intro u; try simp only [llc, lln, lna, lza]) | refine gd2_l (hk := ?_) | refine gd2_lp (hk := ?_) | (refine gd2_newp (hk := ?_); intro id) | refine gd2_st (hk := ?_) | (refine gd2_bsl rfl rfl ?_; intro u; try simp only [llc, lln, lna, lza]) | (refine gd2_a (hk := ?_); intro u; try simp only [llc, lln, lna, lza])) | (show GO _ _ _ _ _ (⟨none, none, _⟩ :: _) _; refine go_st (hk := ?_)) | (show GD _ _ _ _ _ _ _ (⟨none, none, _⟩ :: _) _; refine gd_st (hk := ?_)) | (show GO _ _ _ _ _ (⟨_, some _, _⟩ :: _) _; first | refine go_in (hk := ?_) | refine go_out (hk := ?_) | refine go_void (hk := ?_)) | (show GK _ _ _ _ (blockK _ _ _); refine gk_past rfl ?_) | (show GC _ _ _ _ _ (.cond _ _ _) _; first | refine gc_yes (h1 := ?_) | refine gc_no (h1 := ?_))))
      refine go_is rfl (stp_ldF (i := d + 1) rfl (lm_has' (show j < vs.length by omega) [_, _, _]) (by simp [tabS_len]) (by simp [tabS_len]; omega)) ?_
      rw [show nthR (rowL xs j) (d + 1) = dpF (· + ·) selR (pieR xs) j (d + 1) from (tabS_nthR (by omega)).trans (if_neg (by omega))]
      (repeat (first | refine gst (hk := ?_) | (with_reducible first | (refine gc_drw (h := ?_); intro _) | (refine gc_drw2 (h := ?_); intro _)) | (show GO _ _ _ _ _ (⟨some _, none, _⟩ :: _) _; first | refine go_op (hk := ?_) | (refine go_nw (hk := ?_); intro u; try simp only [llc, lln, lna, lza]) | (refine go_np (hk := ?_); intro id)) | (show GD _ _ _ _ _ _ _ (⟨some _, none, _⟩ :: _) _; first | refine gd_op (hk := ?_) | (refine gd_nw (hk := ?_); intro u; try simp only [llc, lln, lna, lza])) | (show GD2 _ _ _ _ _ _ _ _ _ _ _ _ _ _; first | refine gd2_nil rfl ?_ | refine gd2_op (hk := ?_) | (refine gd2_nw (hk := ?_); intro u; try simp only [llc, lln, lna, lza]) | refine gd2_l (hk := ?_) | refine gd2_lp (hk := ?_) | (refine gd2_newp (hk := ?_); intro id) | refine gd2_st (hk := ?_) | (refine gd2_bsl rfl rfl ?_; intro u; try simp only [llc, lln, lna, lza]) | (refine gd2_a (hk := ?_); intro u; try simp only [llc, lln, lna, lza])) | (show GO _ _ _ _ _ (⟨none, none, _⟩ :: _) _; refine go_st (hk := ?_)) | (show GD _ _ _ _ _ _ _ (⟨none, none, _⟩ :: _) _; refine gd_st (hk := ?_)) | (show GO _ _ _ _ _ (⟨_, some _, _⟩ :: _) _; first | refine go_in (hk := ?_) | refine go_out (hk := ?_) | refine go_void (hk := ?_)) | (show GK _ _ _ _ (blockK _ _ _); refine gk_past rfl ?_) | (show GC _ _ _ _ _ (.cond _ _ _) _; first | refine gc_yes (h1 := ?_) | refine gc_no (h1 := ?_))))
      revert id; intro i12
      refine gc_up d (fun t => [(0, a), (1, .int .i64 (P : Int)), (5, .int .i64 (xs.length : Int)), (6, u), (9, .int .i64 ((vs.length + 1 : Nat) : Int)), (10, v), (11, .int .i64 ((d + 1 : Nat) : Int)), (12, .ptr i12 0), (13, .int .i64 ((t + 1 : Nat) : Int))]) (fun t => [celF i12 (seqm selR (dpF (· + ·) selR (pieR xs) j (d + 1)) (caF xs j (d + 1)) t), rwF v (d + 1) (tabS (d + 1) (lmK xs vs.length)), ⟨.rw, u, 1, vs.length, vs⟩, .roI a xs.length xs] ++ lmS xs vs) (hS := Sub.cons .head (.cons .head (.cons .head (.cons .head (sub_refl _))))) (hb := ?_)
      intro t ht I4 ν4 m4 hk4
      have f0 : FD (seqm selR (dpF (· + ·) selR (pieR xs) j (d + 1)) (caF xs j (d + 1)) t) 840 2000000000 := seq_fd ((hSt.dp_fd (by omega) (by omega)).mono (by omega)) fun i h1 h2 => (hSt.ca_fd h1 (by omega) (by omega)).mono (by omega)
      (repeat (first | refine gst (hk := ?_) | (with_reducible first | (refine gc_drw (h := ?_); intro _) | (refine gc_drw2 (h := ?_); intro _)) | (show GO _ _ _ _ _ (⟨some _, none, _⟩ :: _) _; first | refine go_op (hk := ?_) | (refine go_nw (hk := ?_); intro u; try simp only [llc, lln, lna, lza]) | (refine go_np (hk := ?_); intro id)) | (show GD _ _ _ _ _ _ _ (⟨some _, none, _⟩ :: _) _; first | refine gd_op (hk := ?_) | (refine gd_nw (hk := ?_); intro u; try simp only [llc, lln, lna, lza])) | (show GD2 _ _ _ _ _ _ _ _ _ _ _ _ _ _; first | refine gd2_nil rfl ?_ | refine gd2_op (hk := ?_) | (refine gd2_nw (hk := ?_); intro u; try simp only [llc, lln, lna, lza]) | refine gd2_l (hk := ?_) | refine gd2_lp (hk := ?_) | (refine gd2_newp (hk := ?_); intro id) | refine gd2_st (hk := ?_) | (refine gd2_bsl rfl rfl ?_; intro u; try simp only [llc, lln, lna, lza]) | (refine gd2_a (hk := ?_); intro u; try simp only [llc, lln, lna, lza])) | (show GO _ _ _ _ _ (⟨none, none, _⟩ :: _) _; refine go_st (hk := ?_)) | (show GD _ _ _ _ _ _ _ (⟨none, none, _⟩ :: _) _; refine gd_st (hk := ?_)) | (show GO _ _ _ _ _ (⟨_, some _, _⟩ :: _) _; first | refine go_in (hk := ?_) | refine go_out (hk := ?_) | refine go_void (hk := ?_)) | (show GK _ _ _ _ (blockK _ _ _); refine gk_past rfl ?_) | (show GC _ _ _ _ _ (.cond _ _ _) _; first | refine gc_yes (h1 := ?_) | refine gc_no (h1 := ?_))))
      refine gc_cond rfl (fun h4 => ?_) (fun h4 => ?_)
      · have hk4 := hk4 (by omega)
        rw [seqm] at hk4
        have f1 : FD (caF xs j (d + 1) (t + 1)) 840 2000000000 := (hSt.ca_fd (by omega) (by omega) (by omega)).mono (by omega)
        have f2 := hSt.dp_fd (p := j) (k := t + 1) (by omega) (by omega)
        have f3 := hSt.pie_fd (i := t + 1) (k := d + 1) (by omega) (by omega)
        (repeat (first | refine gst (hk := ?_) | (with_reducible first | (refine gc_drw (h := ?_); intro _) | (refine gc_drw2 (h := ?_); intro _)) | (show GO _ _ _ _ _ (⟨some _, none, _⟩ :: _) _; first | refine go_op (hk := ?_) | (refine go_nw (hk := ?_); intro u; try simp only [llc, lln, lna, lza]) | (refine go_np (hk := ?_); intro id)) | (show GD _ _ _ _ _ _ _ (⟨some _, none, _⟩ :: _) _; first | refine gd_op (hk := ?_) | (refine gd_nw (hk := ?_); intro u; try simp only [llc, lln, lna, lza])) | (show GD2 _ _ _ _ _ _ _ _ _ _ _ _ _ _; first | refine gd2_nil rfl ?_ | refine gd2_op (hk := ?_) | (refine gd2_nw (hk := ?_); intro u; try simp only [llc, lln, lna, lza]) | refine gd2_l (hk := ?_) | refine gd2_lp (hk := ?_) | (refine gd2_newp (hk := ?_); intro id) | refine gd2_st (hk := ?_) | (refine gd2_bsl rfl rfl ?_; intro u; try simp only [llc, lln, lna, lza]) | (refine gd2_a (hk := ?_); intro u; try simp only [llc, lln, lna, lza])) | (show GO _ _ _ _ _ (⟨none, none, _⟩ :: _) _; refine go_st (hk := ?_)) | (show GD _ _ _ _ _ _ _ (⟨none, none, _⟩ :: _) _; refine gd_st (hk := ?_)) | (show GO _ _ _ _ _ (⟨_, some _, _⟩ :: _) _; first | refine go_in (hk := ?_) | refine go_out (hk := ?_) | refine go_void (hk := ?_)) | (show GK _ _ _ _ (blockK _ _ _); refine gk_past rfl ?_) | (show GC _ _ _ _ _ (.cond _ _ _) _; first | refine gc_yes (h1 := ?_) | refine gc_no (h1 := ?_))))
        refine gc_drw4n (qtTab [(fn_spec_miss, dOne [a, .int .i64 ((t + 1 : Nat) : Int), .int .i64 ((d + 1 : Nat) : Int)] (frV (pieR xs (t + 1) (d + 1)))), (fn_spec_plus, dPlus)]) (fun H0 H hH0 hg => qtTab_cons (dOne_ok code_spec_miss.callable (dMiss_ok hH0 hg (by exact Has.auto) hSt (by omega) (by omega))) (qtTab_cons (dPlus_ok H) qtTab_nil)) (fun H0 hH0 => ?_)
        repeat (refine gd4_op (hk := ?_))
        rw [ej]
        refine gd4_ld (u := u.elem j) rfl (stp_ldV (i := j) rfl (by exact Has.auto) rfl (by omega)) ?_
        repeat (refine gd4_op (hk := ?_))
        refine gd4_is rfl (stp_ixa (i := t + 1) rfl rfl (lm_has' (show j < vs.length by omega) [_, _, _, _]) (by omega)) ?_
        refine gd4_ld (u := (nthV vs j).elem (t + 1)) rfl (stp_ldF (i := t + 1) rfl (lm_has' (show j < vs.length by omega) [_, _, _, _]) (by simp [tabS_len]) (by simp [tabS_len]; omega)) ?_
        rw [show nthR (rowL xs j) (t + 1) = dpF (· + ·) selR (pieR xs) j (t + 1) from (tabS_nthR (by omega)).trans (if_neg (by omega))]
        repeat (refine gd4_op (hk := ?_))
        refine gd4_call rfl dOne_is ?_
        refine gd4_call rfl (fam2_is (F := FitA) (fit9 (f2.mono (by omega)) (f3.mono (by omega)))) ?_
        rw [show dpF (· + ·) selR (pieR xs) j (t + 1) + pieR xs (t + 1) (d + 1) = caF xs j (d + 1) (t + 1) from rfl]
        refine gd4_new ?_
        refine gd4_st rfl stp_stag ?_
        have b1 := vid_old (v := u) (es := 1) (n := vs.length) (cs := vs) (i := j) hH0 (by exact Has.auto)
        have b2 := vid_old (v := nthV vs j) (es := 2) (n := xs.length + 1) (cs := frs (rowL xs j)) (i := t + 1) hH0 (lm_has' (by omega) [_, _, _, _])
        refine gd4_nil (pairs_on rfl rfl b1 (pairs_on rfl rfl b2 trivial)) (by simp [vid]) ?_
        (repeat (first | refine gst (hk := ?_) | (with_reducible first | (refine gc_drw (h := ?_); intro _) | (refine gc_drw2 (h := ?_); intro _)) | (show GO _ _ _ _ _ (⟨some _, none, _⟩ :: _) _; first | refine go_op (hk := ?_) | (refine go_nw (hk := ?_); intro u; try simp only [llc, lln, lna, lza]) | (refine go_np (hk := ?_); intro id)) | (show GD _ _ _ _ _ _ _ (⟨some _, none, _⟩ :: _) _; first | refine gd_op (hk := ?_) | (refine gd_nw (hk := ?_); intro u; try simp only [llc, lln, lna, lza])) | (show GD2 _ _ _ _ _ _ _ _ _ _ _ _ _ _; first | refine gd2_nil rfl ?_ | refine gd2_op (hk := ?_) | (refine gd2_nw (hk := ?_); intro u; try simp only [llc, lln, lna, lza]) | refine gd2_l (hk := ?_) | refine gd2_lp (hk := ?_) | (refine gd2_newp (hk := ?_); intro id) | refine gd2_st (hk := ?_) | (refine gd2_bsl rfl rfl ?_; intro u; try simp only [llc, lln, lna, lza]) | (refine gd2_a (hk := ?_); intro u; try simp only [llc, lln, lna, lza])) | (show GO _ _ _ _ _ (⟨none, none, _⟩ :: _) _; refine go_st (hk := ?_)) | (show GD _ _ _ _ _ _ _ (⟨none, none, _⟩ :: _) _; refine gd_st (hk := ?_)) | (show GO _ _ _ _ _ (⟨_, some _, _⟩ :: _) _; first | refine go_in (hk := ?_) | refine go_out (hk := ?_) | refine go_void (hk := ?_)) | (show GK _ _ _ _ (blockK _ _ _); refine gk_past rfl ?_) | (show GC _ _ _ _ _ (.cond _ _ _) _; first | refine gc_yes (h1 := ?_) | refine gc_no (h1 := ?_))))
        refine go_callp rfl code_spec_less.callable (fun H hH => specLess_ok (fit9 f1 f0)) ?_
        (repeat (first | refine gst (hk := ?_) | (with_reducible first | (refine gc_drw (h := ?_); intro _) | (refine gc_drw2 (h := ?_); intro _)) | (show GO _ _ _ _ _ (⟨some _, none, _⟩ :: _) _; first | refine go_op (hk := ?_) | (refine go_nw (hk := ?_); intro u; try simp only [llc, lln, lna, lza]) | (refine go_np (hk := ?_); intro id)) | (show GD _ _ _ _ _ _ _ (⟨some _, none, _⟩ :: _) _; first | refine gd_op (hk := ?_) | (refine gd_nw (hk := ?_); intro u; try simp only [llc, lln, lna, lza])) | (show GD2 _ _ _ _ _ _ _ _ _ _ _ _ _ _; first | refine gd2_nil rfl ?_ | refine gd2_op (hk := ?_) | (refine gd2_nw (hk := ?_); intro u; try simp only [llc, lln, lna, lza]) | refine gd2_l (hk := ?_) | refine gd2_lp (hk := ?_) | (refine gd2_newp (hk := ?_); intro id) | refine gd2_st (hk := ?_) | (refine gd2_bsl rfl rfl ?_; intro u; try simp only [llc, lln, lna, lza]) | (refine gd2_a (hk := ?_); intro u; try simp only [llc, lln, lna, lza])) | (show GO _ _ _ _ _ (⟨none, none, _⟩ :: _) _; refine go_st (hk := ?_)) | (show GD _ _ _ _ _ _ _ (⟨none, none, _⟩ :: _) _; refine gd_st (hk := ?_)) | (show GO _ _ _ _ _ (⟨_, some _, _⟩ :: _) _; first | refine go_in (hk := ?_) | refine go_out (hk := ?_) | refine go_void (hk := ?_)) | (show GK _ _ _ _ (blockK _ _ _); refine gk_past rfl ?_) | (show GC _ _ _ _ _ (.cond _ _ _) _; first | refine gc_yes (h1 := ?_) | refine gc_no (h1 := ?_))))
        refine gc_cond rfl (fun h5 => ?_) (fun h5 => ?_)
        · rw [show selR (seqm selR (dpF (· + ·) selR (pieR xs) j (d + 1)) (caF xs j (d + 1)) t) (caF xs j (d + 1) (t + 1)) = caF xs j (d + 1) (t + 1) from if_pos h5] at hk4
          (repeat (first | refine gst (hk := ?_) | (with_reducible first | (refine gc_drw (h := ?_); intro _) | (refine gc_drw2 (h := ?_); intro _)) | (show GO _ _ _ _ _ (⟨some _, none, _⟩ :: _) _; first | refine go_op (hk := ?_) | (refine go_nw (hk := ?_); intro u; try simp only [llc, lln, lna, lza]) | (refine go_np (hk := ?_); intro id)) | (show GD _ _ _ _ _ _ _ (⟨some _, none, _⟩ :: _) _; first | refine gd_op (hk := ?_) | (refine gd_nw (hk := ?_); intro u; try simp only [llc, lln, lna, lza])) | (show GD2 _ _ _ _ _ _ _ _ _ _ _ _ _ _; first | refine gd2_nil rfl ?_ | refine gd2_op (hk := ?_) | (refine gd2_nw (hk := ?_); intro u; try simp only [llc, lln, lna, lza]) | refine gd2_l (hk := ?_) | refine gd2_lp (hk := ?_) | (refine gd2_newp (hk := ?_); intro id) | refine gd2_st (hk := ?_) | (refine gd2_bsl rfl rfl ?_; intro u; try simp only [llc, lln, lna, lza]) | (refine gd2_a (hk := ?_); intro u; try simp only [llc, lln, lna, lza])) | (show GO _ _ _ _ _ (⟨none, none, _⟩ :: _) _; refine go_st (hk := ?_)) | (show GD _ _ _ _ _ _ _ (⟨none, none, _⟩ :: _) _; refine gd_st (hk := ?_)) | (show GO _ _ _ _ _ (⟨_, some _, _⟩ :: _) _; first | refine go_in (hk := ?_) | refine go_out (hk := ?_) | refine go_void (hk := ?_)) | (show GK _ _ _ _ (blockK _ _ _); refine gk_past rfl ?_) | (show GC _ _ _ _ _ (.cond _ _ _) _; first | refine gc_yes (h1 := ?_) | refine gc_no (h1 := ?_))))
          exact gk_next (hs := by (repeat (refine Sub.cons (by exact Sel.auto) ?_)); first | exact sub_refl _ | exact sub_drop (sub_refl _) | exact sub_drop (sub_drop (sub_refl _))) hk4
        · rw [show selR (seqm selR (dpF (· + ·) selR (pieR xs) j (d + 1)) (caF xs j (d + 1)) t) (caF xs j (d + 1) (t + 1)) = seqm selR (dpF (· + ·) selR (pieR xs) j (d + 1)) (caF xs j (d + 1)) t from if_neg h5] at hk4
          (repeat (first | refine gst (hk := ?_) | (with_reducible first | (refine gc_drw (h := ?_); intro _) | (refine gc_drw2 (h := ?_); intro _)) | (show GO _ _ _ _ _ (⟨some _, none, _⟩ :: _) _; first | refine go_op (hk := ?_) | (refine go_nw (hk := ?_); intro u; try simp only [llc, lln, lna, lza]) | (refine go_np (hk := ?_); intro id)) | (show GD _ _ _ _ _ _ _ (⟨some _, none, _⟩ :: _) _; first | refine gd_op (hk := ?_) | (refine gd_nw (hk := ?_); intro u; try simp only [llc, lln, lna, lza])) | (show GD2 _ _ _ _ _ _ _ _ _ _ _ _ _ _; first | refine gd2_nil rfl ?_ | refine gd2_op (hk := ?_) | (refine gd2_nw (hk := ?_); intro u; try simp only [llc, lln, lna, lza]) | refine gd2_l (hk := ?_) | refine gd2_lp (hk := ?_) | (refine gd2_newp (hk := ?_); intro id) | refine gd2_st (hk := ?_) | (refine gd2_bsl rfl rfl ?_; intro u; try simp only [llc, lln, lna, lza]) | (refine gd2_a (hk := ?_); intro u; try simp only [llc, lln, lna, lza])) | (show GO _ _ _ _ _ (⟨none, none, _⟩ :: _) _; refine go_st (hk := ?_)) | (show GD _ _ _ _ _ _ _ (⟨none, none, _⟩ :: _) _; refine gd_st (hk := ?_)) | (show GO _ _ _ _ _ (⟨_, some _, _⟩ :: _) _; first | refine go_in (hk := ?_) | refine go_out (hk := ?_) | refine go_void (hk := ?_)) | (show GK _ _ _ _ (blockK _ _ _); refine gk_past rfl ?_) | (show GC _ _ _ _ _ (.cond _ _ _) _; first | refine gc_yes (h1 := ?_) | refine gc_no (h1 := ?_))))
          exact gk_next (hs := by (repeat (refine Sub.cons (by exact Sel.auto) ?_)); first | exact sub_refl _ | exact sub_drop (sub_refl _) | exact sub_drop (sub_drop (sub_refl _))) hk4
      · obtain rfl : t = d := by omega
        have e2 : seqm selR (dpF (· + ·) selR (pieR xs) j (t + 1)) (caF xs j (t + 1)) t = lmK xs vs.length (t + 1) := by
          rw [hj]; exact (if_neg (by omega)).symm
        rw [e2]
        (repeat (first | refine gst (hk := ?_) | (with_reducible first | (refine gc_drw (h := ?_); intro _) | (refine gc_drw2 (h := ?_); intro _)) | (show GO _ _ _ _ _ (⟨some _, none, _⟩ :: _) _; first | refine go_op (hk := ?_) | (refine go_nw (hk := ?_); intro u; try simp only [llc, lln, lna, lza]) | (refine go_np (hk := ?_); intro id)) | (show GD _ _ _ _ _ _ _ (⟨some _, none, _⟩ :: _) _; first | refine gd_op (hk := ?_) | (refine gd_nw (hk := ?_); intro u; try simp only [llc, lln, lna, lza])) | (show GD2 _ _ _ _ _ _ _ _ _ _ _ _ _ _; first | refine gd2_nil rfl ?_ | refine gd2_op (hk := ?_) | (refine gd2_nw (hk := ?_); intro u; try simp only [llc, lln, lna, lza]) | refine gd2_l (hk := ?_) | refine gd2_lp (hk := ?_) | (refine gd2_newp (hk := ?_); intro id) | refine gd2_st (hk := ?_) | (refine gd2_bsl rfl rfl ?_; intro u; try simp only [llc, lln, lna, lza]) | (refine gd2_a (hk := ?_); intro u; try simp only [llc, lln, lna, lza])) | (show GO _ _ _ _ _ (⟨none, none, _⟩ :: _) _; refine go_st (hk := ?_)) | (show GD _ _ _ _ _ _ _ (⟨none, none, _⟩ :: _) _; refine gd_st (hk := ?_)) | (show GO _ _ _ _ _ (⟨_, some _, _⟩ :: _) _; first | refine go_in (hk := ?_) | refine go_out (hk := ?_) | refine go_void (hk := ?_)) | (show GK _ _ _ _ (blockK _ _ _); refine gk_past rfl ?_) | (show GC _ _ _ _ _ (.cond _ _ _) _; first | refine gc_yes (h1 := ?_) | refine gc_no (h1 := ?_))))
        refine go_new rfl (stp_appF (v := v) (n := t + 1) (m' := 1) (L := tabS (t + 1) (lmK xs vs.length)) (M := [lmK xs vs.length (t + 1)]) rfl rfl (by exact Sel.auto) (by exact Has.auto) (by omega)) ?_
        intro u2
        rw [tabS_snoc (t + 1) (lmK xs vs.length)]
        (repeat (first | refine gst (hk := ?_) | (with_reducible first | (refine gc_drw (h := ?_); intro _) | (refine gc_drw2 (h := ?_); intro _)) | (show GO _ _ _ _ _ (⟨some _, none, _⟩ :: _) _; first | refine go_op (hk := ?_) | (refine go_nw (hk := ?_); intro u; try simp only [llc, lln, lna, lza]) | (refine go_np (hk := ?_); intro id)) | (show GD _ _ _ _ _ _ _ (⟨some _, none, _⟩ :: _) _; first | refine gd_op (hk := ?_) | (refine gd_nw (hk := ?_); intro u; try simp only [llc, lln, lna, lza])) | (show GD2 _ _ _ _ _ _ _ _ _ _ _ _ _ _; first | refine gd2_nil rfl ?_ | refine gd2_op (hk := ?_) | (refine gd2_nw (hk := ?_); intro u; try simp only [llc, lln, lna, lza]) | refine gd2_l (hk := ?_) | refine gd2_lp (hk := ?_) | (refine gd2_newp (hk := ?_); intro id) | refine gd2_st (hk := ?_) | (refine gd2_bsl rfl rfl ?_; intro u; try simp only [llc, lln, lna, lza]) | (refine gd2_a (hk := ?_); intro u; try simp only [llc, lln, lna, lza])) | (show GO _ _ _ _ _ (⟨none, none, _⟩ :: _) _; refine go_st (hk := ?_)) | (show GD _ _ _ _ _ _ _ (⟨none, none, _⟩ :: _) _; refine gd_st (hk := ?_)) | (show GO _ _ _ _ _ (⟨_, some _, _⟩ :: _) _; first | refine go_in (hk := ?_) | refine go_out (hk := ?_) | refine go_void (hk := ?_)) | (show GK _ _ _ _ (blockK _ _ _); refine gk_past rfl ?_) | (show GC _ _ _ _ _ (.cond _ _ _) _; first | refine gc_yes (h1 := ?_) | refine gc_no (h1 := ?_))))
        exact gk_next (hs := by (repeat (refine Sub.cons (by exact Sel.auto) ?_)); first | exact sub_refl _ | exact sub_drop (sub_refl _) | exact sub_drop (sub_drop (sub_refl _))) (hk3 u2)
    · obtain rfl : d = xs.length := by omega
      (repeat (first | refine gst (hk := ?_) | (with_reducible first | (refine gc_drw (h := ?_); intro _) | (refine gc_drw2 (h := ?_); intro _)) | (show GO _ _ _ _ _ (⟨some _, none, _⟩ :: _) _; first | refine go_op (hk := ?_) | (refine go_nw (hk := ?_); intro u; try simp only [llc, lln, lna, lza]) | (refine go_np (hk := ?_); intro id)) | (show GD _ _ _ _ _ _ _ (⟨some _, none, _⟩ :: _) _; first | refine gd_op (hk := ?_) | (refine gd_nw (hk := ?_); intro u; try simp only [llc, lln, lna, lza])) | (show GD2 _ _ _ _ _ _ _ _ _ _ _ _ _ _; first | refine gd2_nil rfl ?_ | refine gd2_op (hk := ?_) | (refine gd2_nw (hk := ?_); intro u; try simp only [llc, lln, lna, lza]) | refine gd2_l (hk := ?_) | refine gd2_lp (hk := ?_) | (refine gd2_newp (hk := ?_); intro id) | refine gd2_st (hk := ?_) | (refine gd2_bsl rfl rfl ?_; intro u; try simp only [llc, lln, lna, lza]) | (refine gd2_a (hk := ?_); intro u; try simp only [llc, lln, lna, lza])) | (show GO _ _ _ _ _ (⟨none, none, _⟩ :: _) _; refine go_st (hk := ?_)) | (show GD _ _ _ _ _ _ _ (⟨none, none, _⟩ :: _) _; refine gd_st (hk := ?_)) | (show GO _ _ _ _ _ (⟨_, some _, _⟩ :: _) _; first | refine go_in (hk := ?_) | refine go_out (hk := ?_) | refine go_void (hk := ?_)) | (show GK _ _ _ _ (blockK _ _ _); refine gk_past rfl ?_) | (show GC _ _ _ _ _ (.cond _ _ _) _; first | refine gc_yes (h1 := ?_) | refine gc_no (h1 := ?_))))
      refine go_know (p := OneC v) (fun m H hH => one_slice (hH.valsA .rw)) (fun ho => ?_)
      refine go_new rfl (stp_bslv rfl ho.1 ho.2) ?_
      intro w
      refine go_new rfl (stp_app (v := u) (es := 1) (n := vs.length) (m' := 1) (cs := vs) (news := [v]) rfl rfl (.tail (.tail .head)) .rw (by simp [ho.2]) (by omega) (by omega) (by omega)) ?_
      intro u84
      (repeat (first | refine gst (hk := ?_) | (with_reducible first | (refine gc_drw (h := ?_); intro _) | (refine gc_drw2 (h := ?_); intro _)) | (show GO _ _ _ _ _ (⟨some _, none, _⟩ :: _) _; first | refine go_op (hk := ?_) | (refine go_nw (hk := ?_); intro u; try simp only [llc, lln, lna, lza]) | (refine go_np (hk := ?_); intro id)) | (show GD _ _ _ _ _ _ _ (⟨some _, none, _⟩ :: _) _; first | refine gd_op (hk := ?_) | (refine gd_nw (hk := ?_); intro u; try simp only [llc, lln, lna, lza])) | (show GD2 _ _ _ _ _ _ _ _ _ _ _ _ _ _; first | refine gd2_nil rfl ?_ | refine gd2_op (hk := ?_) | (refine gd2_nw (hk := ?_); intro u; try simp only [llc, lln, lna, lza]) | refine gd2_l (hk := ?_) | refine gd2_lp (hk := ?_) | (refine gd2_newp (hk := ?_); intro id) | refine gd2_st (hk := ?_) | (refine gd2_bsl rfl rfl ?_; intro u; try simp only [llc, lln, lna, lza]) | (refine gd2_a (hk := ?_); intro u; try simp only [llc, lln, lna, lza])) | (show GO _ _ _ _ _ (⟨none, none, _⟩ :: _) _; refine go_st (hk := ?_)) | (show GD _ _ _ _ _ _ _ (⟨none, none, _⟩ :: _) _; refine gd_st (hk := ?_)) | (show GO _ _ _ _ _ (⟨_, some _, _⟩ :: _) _; first | refine go_in (hk := ?_) | refine go_out (hk := ?_) | refine go_void (hk := ?_)) | (show GK _ _ _ _ (blockK _ _ _); refine gk_past rfl ?_) | (show GC _ _ _ _ _ (.cond _ _ _) _; first | refine gc_yes (h1 := ?_) | refine gc_no (h1 := ?_))))
      have hk2 := hk2 (u84, vs ++ [v]) ⟨by simp, by simp; omega, fun z hz => by
        rcases List.mem_append.1 hz with hz | hz
        · exact hone z hz
        · rw [List.mem_singleton.1 hz]; exact ho⟩ (by simp only [List.length_append, List.length_singleton]; omega)
      simp only [List.length_append, List.length_singleton, lmS_snoc] at hk2
      exact gk_next (hs := .cons .head (.cons (.tail (.tail .head)) (sub_drop (sub_snoc _ _)))) hk2
  · simp only at h
    obtain rfl : vs.length = P := by omega
    (repeat (first | refine gst (hk := ?_) | (with_reducible first | (refine gc_drw (h := ?_); intro _) | (refine gc_drw2 (h := ?_); intro _)) | (show GO _ _ _ _ _ (⟨some _, none, _⟩ :: _) _; first | refine go_op (hk := ?_) | (refine go_nw (hk := ?_); intro u; try simp only [llc, lln, lna, lza]) | (refine go_np (hk := ?_); intro id)) | (show GD _ _ _ _ _ _ _ (⟨some _, none, _⟩ :: _) _; first | refine gd_op (hk := ?_) | (refine gd_nw (hk := ?_); intro u; try simp only [llc, lln, lna, lza])) | (show GD2 _ _ _ _ _ _ _ _ _ _ _ _ _ _; first | refine gd2_nil rfl ?_ | refine gd2_op (hk := ?_) | (refine gd2_nw (hk := ?_); intro u; try simp only [llc, lln, lna, lza]) | refine gd2_l (hk := ?_) | refine gd2_lp (hk := ?_) | (refine gd2_newp (hk := ?_); intro id) | refine gd2_st (hk := ?_) | (refine gd2_bsl rfl rfl ?_; intro u; try simp only [llc, lln, lna, lza]) | (refine gd2_a (hk := ?_); intro u; try simp only [llc, lln, lna, lza])) | (show GO _ _ _ _ _ (⟨none, none, _⟩ :: _) _; refine go_st (hk := ?_)) | (show GD _ _ _ _ _ _ _ (⟨none, none, _⟩ :: _) _; refine gd_st (hk := ?_)) | (show GO _ _ _ _ _ (⟨_, some _, _⟩ :: _) _; first | refine go_in (hk := ?_) | refine go_out (hk := ?_) | refine go_void (hk := ?_)) | (show GK _ _ _ _ (blockK _ _ _); refine gk_past rfl ?_) | (show GC _ _ _ _ _ (.cond _ _ _) _; first | refine gc_yes (h1 := ?_) | refine gc_no (h1 := ?_))))
    exact gk_ret rfl fun H' hH => ⟨(u, vs), rfl, rfl, hH.sub (.cons .head (sub_drop (sub_refl _)))⟩

theorem sub_swp (L : Sig) : ∀ T : Sig, Sub (L ++ T) (T ++ L)
  | [] => by rw [List.append_nil]; exact sub_refl _
  | _ :: T => .cons (sel_app L .head) (sub_swp L T)

theorem sub_end {c : Ch} {L T : Sig} : Sub ((c :: L) ++ T) (c :: (T ++ L)) := .cons .head (sub_swp L T)

theorem row_at {xs : List Int} {j : Nat} : nthR (rowL xs j) xs.length = lmK xs j xs.length := tabS_nthR (by omega)

theorem Steps.lm_n {xs : List Int} (h : Steps xs) {p : Nat} (hp : 1 ≤ p) : lmK xs (p - 1) xs.length = psR xs p := if_neg (by have := h.2.1; omega)

theorem specPiecesMiss_ok {H : Heap} {a : AV} {xs : List Int} {p : Int} (ha : Ints H a xs) (hl : xs.length ≤ 1000000000) :
    ACalls Try.prog fn_spec_PiecesMiss [a, .int .i64 p] H fun r H' => r = .tuple [opV (PsOk xs p) (psR xs p.toNat), .bool (decide (PsOk xs p))] ∧ H' = H := by
  refine ACalls.val ?_ rfl
  refine code_spec_PiecesMiss.go [.roI a xs.length xs] ⟨⟨rfl, ha⟩, trivial⟩ (by simp) ?_
  unfold mc_spec_PiecesMiss
  have no : ¬ PsOk xs p → AV.tuple [fr0, .bool false] = AV.tuple [opV (PsOk xs p) (psR xs p.toNat), .bool (decide (PsOk xs p))] := fun h => by rw [opV_no h, decide_eq_false h]
  (repeat (first | refine gst (hk := ?_) | (show GO _ _ _ _ _ (⟨some _, none, .call _ _⟩ :: _) _; first | (show GO _ _ _ _ _ (⟨some _, none, .call fn_spec_inRange _⟩ :: _) _; refine go_inRange (hk := ?_); try intro u)) | (show GO _ _ _ _ _ (⟨some _, none, _⟩ :: _) _; first | refine go_op (hk := ?_) | (refine go_nw (hk := ?_); intro u; try simp only [llc, lln, lna, lza]) | (refine go_np (hk := ?_); intro id)) | (show GO _ _ _ _ _ (⟨none, none, _⟩ :: _) _; refine go_st (hk := ?_)) | (show GO _ _ _ _ _ (⟨_, some _, _⟩ :: _) _; first | refine go_in (hk := ?_) | refine go_out (hk := ?_) | refine go_void (hk := ?_)) | (show GK _ _ _ _ (blockK _ _ _); refine gk_past rfl ?_) | (show GC _ _ _ _ _ (.cond _ _ _) _; first | refine gc_yes (h1 := ?_) | refine gc_no (h1 := ?_))))
  refine go_callp rfl code_spec_validSteps.callable (fun H hH => specValidSteps_ok (hH.ints (by exact Has.auto)) hl) ?_
  (repeat (first | refine gst (hk := ?_) | (show GO _ _ _ _ _ (⟨some _, none, .call _ _⟩ :: _) _; first | (show GO _ _ _ _ _ (⟨some _, none, .call fn_spec_inRange _⟩ :: _) _; refine go_inRange (hk := ?_); try intro u)) | (show GO _ _ _ _ _ (⟨some _, none, _⟩ :: _) _; first | refine go_op (hk := ?_) | (refine go_nw (hk := ?_); intro u; try simp only [llc, lln, lna, lza]) | (refine go_np (hk := ?_); intro id)) | (show GO _ _ _ _ _ (⟨none, none, _⟩ :: _) _; refine go_st (hk := ?_)) | (show GO _ _ _ _ _ (⟨_, some _, _⟩ :: _) _; first | refine go_in (hk := ?_) | refine go_out (hk := ?_) | refine go_void (hk := ?_)) | (show GK _ _ _ _ (blockK _ _ _); refine gk_past rfl ?_) | (show GC _ _ _ _ _ (.cond _ _ _) _; first | refine gc_yes (h1 := ?_) | refine gc_no (h1 := ?_))))
  refine go_split 9 rfl (fun h1 => ?_) (fun h1 => ?_)
  · (repeat (first | refine gst (hk := ?_) | (show GO _ _ _ _ _ (⟨some _, none, .call _ _⟩ :: _) _; first | (show GO _ _ _ _ _ (⟨some _, none, .call fn_spec_inRange _⟩ :: _) _; refine go_inRange (hk := ?_); try intro u)) | (show GO _ _ _ _ _ (⟨some _, none, _⟩ :: _) _; first | refine go_op (hk := ?_) | (refine go_nw (hk := ?_); intro u; try simp only [llc, lln, lna, lza]) | (refine go_np (hk := ?_); intro id)) | (show GO _ _ _ _ _ (⟨none, none, _⟩ :: _) _; refine go_st (hk := ?_)) | (show GO _ _ _ _ _ (⟨_, some _, _⟩ :: _) _; first | refine go_in (hk := ?_) | refine go_out (hk := ?_) | refine go_void (hk := ?_)) | (show GK _ _ _ _ (blockK _ _ _); refine gk_past rfl ?_) | (show GC _ _ _ _ _ (.cond _ _ _) _; first | refine gc_yes (h1 := ?_) | refine gc_no (h1 := ?_))))
    exact gk_rets (rvs_c rfl (by exact Sel.auto) rfl rfl (rvs_t rfl rvs_nil)) fun H' hH => ⟨no fun h => h1 h.1, hH.leE⟩
  have hS := Decidable.not_not.1 h1
  (repeat (first | refine gst (hk := ?_) | (show GO _ _ _ _ _ (⟨some _, none, .call _ _⟩ :: _) _; first | (show GO _ _ _ _ _ (⟨some _, none, .call fn_spec_inRange _⟩ :: _) _; refine go_inRange (hk := ?_); try intro u)) | (show GO _ _ _ _ _ (⟨some _, none, _⟩ :: _) _; first | refine go_op (hk := ?_) | (refine go_nw (hk := ?_); intro u; try simp only [llc, lln, lna, lza]) | (refine go_np (hk := ?_); intro id)) | (show GO _ _ _ _ _ (⟨none, none, _⟩ :: _) _; refine go_st (hk := ?_)) | (show GO _ _ _ _ _ (⟨_, some _, _⟩ :: _) _; first | refine go_in (hk := ?_) | refine go_out (hk := ?_) | refine go_void (hk := ?_)) | (show GK _ _ _ _ (blockK _ _ _); refine gk_past rfl ?_) | (show GC _ _ _ _ _ (.cond _ _ _) _; first | refine gc_yes (h1 := ?_) | refine gc_no (h1 := ?_))))
  refine gc_cond rfl (fun h4 => ?_) (fun h4 => ?_)
  · (repeat (first | refine gst (hk := ?_) | (show GO _ _ _ _ _ (⟨some _, none, .call _ _⟩ :: _) _; first | (show GO _ _ _ _ _ (⟨some _, none, .call fn_spec_inRange _⟩ :: _) _; refine go_inRange (hk := ?_); try intro u)) | (show GO _ _ _ _ _ (⟨some _, none, _⟩ :: _) _; first | refine go_op (hk := ?_) | (refine go_nw (hk := ?_); intro u; try simp only [llc, lln, lna, lza]) | (refine go_np (hk := ?_); intro id)) | (show GO _ _ _ _ _ (⟨none, none, _⟩ :: _) _; refine go_st (hk := ?_)) | (show GO _ _ _ _ _ (⟨_, some _, _⟩ :: _) _; first | refine go_in (hk := ?_) | refine go_out (hk := ?_) | refine go_void (hk := ?_)) | (show GK _ _ _ _ (blockK _ _ _); refine gk_past rfl ?_) | (show GC _ _ _ _ _ (.cond _ _ _) _; first | refine gc_yes (h1 := ?_) | refine gc_no (h1 := ?_))))
    exact gk_rets (rvs_c rfl (by exact Sel.auto) rfl rfl (rvs_t rfl rvs_nil)) fun H' hH => ⟨no fun h => h4 h.2, hH.leE⟩
  have h5 := Decidable.not_not.1 h4
  rw [opV_yes ⟨hS, h5⟩, decide_eq_true (show PsOk xs p from ⟨hS, h5⟩)]
  obtain ⟨p', rfl⟩ : ∃ p' : Nat, p = ((p' + 1 : Nat) : Int) := ⟨p.toNat - 1, by omega⟩
  simp only [Int.toNat_natCast]
  (repeat (first | refine gst (hk := ?_) | (show GO _ _ _ _ _ (⟨some _, none, .call _ _⟩ :: _) _; first | (show GO _ _ _ _ _ (⟨some _, none, .call fn_spec_inRange _⟩ :: _) _; refine go_inRange (hk := ?_); try intro u)) | (show GO _ _ _ _ _ (⟨some _, none, _⟩ :: _) _; first | refine go_op (hk := ?_) | (refine go_nw (hk := ?_); intro u; try simp only [llc, lln, lna, lza]) | (refine go_np (hk := ?_); intro id)) | (show GO _ _ _ _ _ (⟨none, none, _⟩ :: _) _; refine go_st (hk := ?_)) | (show GO _ _ _ _ _ (⟨_, some _, _⟩ :: _) _; first | refine go_in (hk := ?_) | refine go_out (hk := ?_) | refine go_void (hk := ?_)) | (show GK _ _ _ _ (blockK _ _ _); refine gk_past rfl ?_) | (show GC _ _ _ _ _ (.cond _ _ _) _; first | refine gc_yes (h1 := ?_) | refine gc_no (h1 := ?_))))
  refine go_callg rfl code_spec_leastMisses.callable (fun H hH => specLeastMisses_ok (P := p' + 1) hH (hH.ints (by exact Has.auto)) hS (by omega)) ?_
  rintro ⟨u, vs⟩ hvl
  simp only at hvl
  have hj : p' < vs.length := by omega
  refine go_sub sub_end ?_
  (repeat (first | refine gst (hk := ?_) | (show GO _ _ _ _ _ (⟨some _, none, .call _ _⟩ :: _) _; first | (show GO _ _ _ _ _ (⟨some _, none, .call fn_spec_inRange _⟩ :: _) _; refine go_inRange (hk := ?_); try intro u)) | (show GO _ _ _ _ _ (⟨some _, none, _⟩ :: _) _; first | refine go_op (hk := ?_) | (refine go_nw (hk := ?_); intro u; try simp only [llc, lln, lna, lza]) | (refine go_np (hk := ?_); intro id)) | (show GO _ _ _ _ _ (⟨none, none, _⟩ :: _) _; refine go_st (hk := ?_)) | (show GO _ _ _ _ _ (⟨_, some _, _⟩ :: _) _; first | refine go_in (hk := ?_) | refine go_out (hk := ?_) | refine go_void (hk := ?_)) | (show GK _ _ _ _ (blockK _ _ _); refine gk_past rfl ?_) | (show GC _ _ _ _ _ (.cond _ _ _) _; first | refine gc_yes (h1 := ?_) | refine gc_no (h1 := ?_))))
  refine go_is rfl (stp_ldV (i := p') rfl (by exact Has.auto) rfl hj) ?_
  (repeat (first | refine gst (hk := ?_) | (show GO _ _ _ _ _ (⟨some _, none, .call _ _⟩ :: _) _; first | (show GO _ _ _ _ _ (⟨some _, none, .call fn_spec_inRange _⟩ :: _) _; refine go_inRange (hk := ?_); try intro u)) | (show GO _ _ _ _ _ (⟨some _, none, _⟩ :: _) _; first | refine go_op (hk := ?_) | (refine go_nw (hk := ?_); intro u; try simp only [llc, lln, lna, lza]) | (refine go_np (hk := ?_); intro id)) | (show GO _ _ _ _ _ (⟨none, none, _⟩ :: _) _; refine go_st (hk := ?_)) | (show GO _ _ _ _ _ (⟨_, some _, _⟩ :: _) _; first | refine go_in (hk := ?_) | refine go_out (hk := ?_) | refine go_void (hk := ?_)) | (show GK _ _ _ _ (blockK _ _ _); refine gk_past rfl ?_) | (show GC _ _ _ _ _ (.cond _ _ _) _; first | refine gc_yes (h1 := ?_) | refine gc_no (h1 := ?_))))
  refine go_is rfl (stp_ixa (i := xs.length) rfl rfl (lm_has' hj [_, _, _]) (by omega)) ?_
  (repeat (first | refine gst (hk := ?_) | (show GO _ _ _ _ _ (⟨some _, none, .call _ _⟩ :: _) _; first | (show GO _ _ _ _ _ (⟨some _, none, .call fn_spec_inRange _⟩ :: _) _; refine go_inRange (hk := ?_); try intro u)) | (show GO _ _ _ _ _ (⟨some _, none, _⟩ :: _) _; first | refine go_op (hk := ?_) | (refine go_nw (hk := ?_); intro u; try simp only [llc, lln, lna, lza]) | (refine go_np (hk := ?_); intro id)) | (show GO _ _ _ _ _ (⟨none, none, _⟩ :: _) _; refine go_st (hk := ?_)) | (show GO _ _ _ _ _ (⟨_, some _, _⟩ :: _) _; first | refine go_in (hk := ?_) | refine go_out (hk := ?_) | refine go_void (hk := ?_)) | (show GK _ _ _ _ (blockK _ _ _); refine gk_past rfl ?_) | (show GC _ _ _ _ _ (.cond _ _ _) _; first | refine gc_yes (h1 := ?_) | refine gc_no (h1 := ?_))))
  refine go_is rfl (stp_ldF (i := xs.length) rfl (lm_has' hj [_, _, _]) (by simp [tabS_len]) (by simp [tabS_len])) ?_
  rw [row_at, show lmK xs p' xs.length = psR xs (p' + 1) from hS.lm_n (p := p' + 1) (by omega)]
  (repeat (first | refine gst (hk := ?_) | (show GO _ _ _ _ _ (⟨some _, none, .call _ _⟩ :: _) _; first | (show GO _ _ _ _ _ (⟨some _, none, .call fn_spec_inRange _⟩ :: _) _; refine go_inRange (hk := ?_); try intro u)) | (show GO _ _ _ _ _ (⟨some _, none, _⟩ :: _) _; first | refine go_op (hk := ?_) | (refine go_nw (hk := ?_); intro u; try simp only [llc, lln, lna, lza]) | (refine go_np (hk := ?_); intro id)) | (show GO _ _ _ _ _ (⟨none, none, _⟩ :: _) _; refine go_st (hk := ?_)) | (show GO _ _ _ _ _ (⟨_, some _, _⟩ :: _) _; first | refine go_in (hk := ?_) | refine go_out (hk := ?_) | refine go_void (hk := ?_)) | (show GK _ _ _ _ (blockK _ _ _); refine gk_past rfl ?_) | (show GC _ _ _ _ _ (.cond _ _ _) _; first | refine gc_yes (h1 := ?_) | refine gc_no (h1 := ?_))))
  exact gk_rets (rvs_c rfl (by exact Sel.auto) rfl rfl (rvs_t rfl rvs_nil)) fun H' hH => ⟨rfl, hH.leE⟩

theorem win_len2 {xs : List Int} {i k : Nat} (h : k ≤ xs.length) : (winL xs i k).length = k - i := by
  unfold winL; rw [List.length_take, List.length_drop]; omega

theorem validPieces_ok {H : Heap} {a : AV} {xs : List Int} {p : Int} (ha : Ints H a xs) (hl : xs.length ≤ 1000000000) :
    ACalls Try.prog fn_impl_validPieces [a, .int .i64 p] H fun r H' => r = .bool (decide (PsOk xs p)) ∧ H' = H := by
  refine ACalls.val ?_ rfl
  refine code_impl_validPieces.go [.roI a xs.length xs] ⟨⟨rfl, ha⟩, trivial⟩ (by simp) ?_
  unfold mc_impl_validPieces
  have no : (PsOk xs p → False) → decide (PsOk xs p) = false := fun h => decide_eq_false h
  (repeat (first | refine gst (hk := ?_) | (show GO _ _ _ _ _ (⟨some _, none, _⟩ :: _) _; first | refine go_op (hk := ?_) | (refine go_nw (hk := ?_); intro u; try simp only [llc, lln, lna, lza]) | (refine go_np (hk := ?_); intro id)) | (show GO _ _ _ _ _ (⟨none, none, _⟩ :: _) _; refine go_st (hk := ?_)) | (show GO _ _ _ _ _ (⟨_, some _, _⟩ :: _) _; first | refine go_in (hk := ?_) | refine go_out (hk := ?_) | refine go_void (hk := ?_)) | (show GK _ _ _ _ (blockK _ _ _); refine gk_past rfl ?_) | (show GC _ _ _ _ _ (.cond _ _ _) _; first | refine gc_yes (h1 := ?_) | refine gc_no (h1 := ?_))))
  refine go_callp rfl code_impl_validHeights.callable (fun H hH => validHeights_ok (hH.ints (by exact Has.auto)) hl) ?_
  (repeat (first | refine gst (hk := ?_) | (show GO _ _ _ _ _ (⟨some _, none, _⟩ :: _) _; first | refine go_op (hk := ?_) | (refine go_nw (hk := ?_); intro u; try simp only [llc, lln, lna, lza]) | (refine go_np (hk := ?_); intro id)) | (show GO _ _ _ _ _ (⟨none, none, _⟩ :: _) _; refine go_st (hk := ?_)) | (show GO _ _ _ _ _ (⟨_, some _, _⟩ :: _) _; first | refine go_in (hk := ?_) | refine go_out (hk := ?_) | refine go_void (hk := ?_)) | (show GK _ _ _ _ (blockK _ _ _); refine gk_past rfl ?_) | (show GC _ _ _ _ _ (.cond _ _ _) _; first | refine gc_yes (h1 := ?_) | refine gc_no (h1 := ?_))))
  refine go_split 7 rfl (fun h1 => ?_) (fun h1 => ?_)
  · (repeat (first | refine gst (hk := ?_) | (show GO _ _ _ _ _ (⟨some _, none, _⟩ :: _) _; first | refine go_op (hk := ?_) | (refine go_nw (hk := ?_); intro u; try simp only [llc, lln, lna, lza]) | (refine go_np (hk := ?_); intro id)) | (show GO _ _ _ _ _ (⟨none, none, _⟩ :: _) _; refine go_st (hk := ?_)) | (show GO _ _ _ _ _ (⟨_, some _, _⟩ :: _) _; first | refine go_in (hk := ?_) | refine go_out (hk := ?_) | refine go_void (hk := ?_)) | (show GK _ _ _ _ (blockK _ _ _); refine gk_past rfl ?_) | (show GC _ _ _ _ _ (.cond _ _ _) _; first | refine gc_yes (h1 := ?_) | refine gc_no (h1 := ?_))))
    refine go_split 11 rfl (fun h2 => ?_) (fun h2 => ?_)
    · (repeat (first | refine gst (hk := ?_) | (show GO _ _ _ _ _ (⟨some _, none, _⟩ :: _) _; first | refine go_op (hk := ?_) | (refine go_nw (hk := ?_); intro u; try simp only [llc, lln, lna, lza]) | (refine go_np (hk := ?_); intro id)) | (show GO _ _ _ _ _ (⟨none, none, _⟩ :: _) _; refine go_st (hk := ?_)) | (show GO _ _ _ _ _ (⟨_, some _, _⟩ :: _) _; first | refine go_in (hk := ?_) | refine go_out (hk := ?_) | refine go_void (hk := ?_)) | (show GK _ _ _ _ (blockK _ _ _); refine gk_past rfl ?_) | (show GC _ _ _ _ _ (.cond _ _ _) _; first | refine gc_yes (h1 := ?_) | refine gc_no (h1 := ?_))))
      exact gk_ret rfl fun H' hH => ⟨by
        simp only [tupleOf]; congr 1
        exact decide_eq_decide.2 ⟨fun h => ⟨h1, by omega⟩, fun h => by have := h.2; omega⟩, hH.leE⟩
    · (repeat (first | refine gst (hk := ?_) | (show GO _ _ _ _ _ (⟨some _, none, _⟩ :: _) _; first | refine go_op (hk := ?_) | (refine go_nw (hk := ?_); intro u; try simp only [llc, lln, lna, lza]) | (refine go_np (hk := ?_); intro id)) | (show GO _ _ _ _ _ (⟨none, none, _⟩ :: _) _; refine go_st (hk := ?_)) | (show GO _ _ _ _ _ (⟨_, some _, _⟩ :: _) _; first | refine go_in (hk := ?_) | refine go_out (hk := ?_) | refine go_void (hk := ?_)) | (show GK _ _ _ _ (blockK _ _ _); refine gk_past rfl ?_) | (show GC _ _ _ _ _ (.cond _ _ _) _; first | refine gc_yes (h1 := ?_) | refine gc_no (h1 := ?_))))
      exact gk_ret rfl fun H' hH => ⟨by rw [no fun h => by have := h.2; omega]; rfl, hH.leE⟩
  · (repeat (first | refine gst (hk := ?_) | (show GO _ _ _ _ _ (⟨some _, none, _⟩ :: _) _; first | refine go_op (hk := ?_) | (refine go_nw (hk := ?_); intro u; try simp only [llc, lln, lna, lza]) | (refine go_np (hk := ?_); intro id)) | (show GO _ _ _ _ _ (⟨none, none, _⟩ :: _) _; refine go_st (hk := ?_)) | (show GO _ _ _ _ _ (⟨_, some _, _⟩ :: _) _; first | refine go_in (hk := ?_) | refine go_out (hk := ?_) | refine go_void (hk := ?_)) | (show GK _ _ _ _ (blockK _ _ _); refine gk_past rfl ?_) | (show GC _ _ _ _ _ (.cond _ _ _) _; first | refine gc_yes (h1 := ?_) | refine gc_no (h1 := ?_))))
    exact gk_ret rfl fun H' hH => ⟨by rw [no fun h => h1 h.1]; rfl, hH.leE⟩

theorem missedSquares_ok {H : Heap} {a : AV} {ys : List Int} (ha : Ints H a ys) (hb : ∀ j, -30 ≤ nth ys j ∧ nth ys j ≤ 30) (h1 : 1 ≤ ys.length) (h2 : ys.length ≤ 8) :
    ACalls Try.prog fn_impl_missedSquares [a] H fun r H' => r = frV (pieR ys 0 ys.length) ∧ H' = H := by
  refine ACalls.val ?_ rfl
  refine code_impl_missedSquares.go [.roI a ys.length ys] ⟨⟨rfl, ha⟩, trivial⟩ (by simp) ?_
  unfold mc_impl_missedSquares
  (repeat (first | refine gst (hk := ?_) | (show GO _ _ _ _ _ (⟨some _, none, _⟩ :: _) _; first | refine go_op (hk := ?_) | (refine go_nw (hk := ?_); intro u; try simp only [llc, lln, lna, lza]) | (refine go_np (hk := ?_); intro id)) | (show GO _ _ _ _ _ (⟨none, none, _⟩ :: _) _; refine go_st (hk := ?_)) | (show GO _ _ _ _ _ (⟨_, some _, _⟩ :: _) _; first | refine go_in (hk := ?_) | refine go_out (hk := ?_) | refine go_void (hk := ?_)) | (show GK _ _ _ _ (blockK _ _ _); refine gk_past rfl ?_) | (show GC _ _ _ _ _ (.cond _ _ _) _; first | refine gc_yes (h1 := ?_) | refine gc_no (h1 := ?_))))
  revert id; intro i2
  refine gc_up ys.length (fun d => [(0, a), (2, .ptr i2 0), (3, .int .i64 (wsS ys 0 d)), (4, .int .i64 (wsQ ys 0 d)), (7, a), (8, .int .i64 (ys.length : Int)), (9, .int .i64 (d : Int))]) (fun _ => [cel0 i2, .roI a ys.length ys]) (hb := ?_)
  intro d hd I ν m hk
  obtain ⟨⟨a1, a2⟩, a3, a4⟩ := ws_bd hb 0 d
  (repeat (first | refine gst (hk := ?_) | (show GO _ _ _ _ _ (⟨some _, none, _⟩ :: _) _; first | refine go_op (hk := ?_) | (refine go_nw (hk := ?_); intro u; try simp only [llc, lln, lna, lza]) | (refine go_np (hk := ?_); intro id)) | (show GO _ _ _ _ _ (⟨none, none, _⟩ :: _) _; refine go_st (hk := ?_)) | (show GO _ _ _ _ _ (⟨_, some _, _⟩ :: _) _; first | refine go_in (hk := ?_) | refine go_out (hk := ?_) | refine go_void (hk := ?_)) | (show GK _ _ _ _ (blockK _ _ _); refine gk_past rfl ?_) | (show GC _ _ _ _ _ (.cond _ _ _) _; first | refine gc_yes (h1 := ?_) | refine gc_no (h1 := ?_))))
  refine gc_cond rfl (fun h => ?_) (fun h => ?_)
  · have hk := hk (by omega)
    have hx := hb d
    have m1 := absmul (k := nth ys d) (l := nth ys d) (A := 30) (B := 30) (by omega) (by omega) (by omega) (by omega)
    rw [show wsS ys 0 (d + 1) = wsS ys 0 d + nth ys (0 + d) from rfl, show wsQ ys 0 (d + 1) = wsQ ys 0 d + nth ys (0 + d) * nth ys (0 + d) from rfl, Nat.zero_add] at hk
    (repeat (first | refine gst (hk := ?_) | (show GO _ _ _ _ _ (⟨some _, none, _⟩ :: _) _; first | refine go_op (hk := ?_) | (refine go_nw (hk := ?_); intro u; try simp only [llc, lln, lna, lza]) | (refine go_np (hk := ?_); intro id)) | (show GO _ _ _ _ _ (⟨none, none, _⟩ :: _) _; refine go_st (hk := ?_)) | (show GO _ _ _ _ _ (⟨_, some _, _⟩ :: _) _; first | refine go_in (hk := ?_) | refine go_out (hk := ?_) | refine go_void (hk := ?_)) | (show GK _ _ _ _ (blockK _ _ _); refine gk_past rfl ?_) | (show GC _ _ _ _ _ (.cond _ _ _) _; first | refine gc_yes (h1 := ?_) | refine gc_no (h1 := ?_))))
    exact gk_next hk
  · obtain rfl : d = ys.length := by omega
    have m1 := absmul (k := wsS ys 0 ys.length) (l := wsS ys 0 ys.length) (A := 240) (B := 240) (by omega) (by omega) (by omega) (by omega)
    have m2 : ((ys.length : Nat) : Int) * wsQ ys 0 ys.length ≤ 8 * 7200 := Int.mul_le_mul (by omega) (by omega) (by omega) (by omega)
    have m3 : 0 ≤ ((ys.length : Nat) : Int) * wsQ ys 0 ys.length := Int.mul_nonneg (by omega) (by omega)
    (repeat (first | refine gst (hk := ?_) | (show GO _ _ _ _ _ (⟨some _, none, _⟩ :: _) _; first | refine go_op (hk := ?_) | (refine go_nw (hk := ?_); intro u; try simp only [llc, lln, lna, lza]) | (refine go_np (hk := ?_); intro id)) | (show GO _ _ _ _ _ (⟨none, none, _⟩ :: _) _; refine go_st (hk := ?_)) | (show GO _ _ _ _ _ (⟨_, some _, _⟩ :: _) _; first | refine go_in (hk := ?_) | refine go_out (hk := ?_) | refine go_void (hk := ?_)) | (show GK _ _ _ _ (blockK _ _ _); refine gk_past rfl ?_) | (show GC _ _ _ _ _ (.cond _ _ _) _; first | refine gc_yes (h1 := ?_) | refine gc_no (h1 := ?_))))
    refine go_callp rfl code_impl_lowest.callable (fun H hH => lowest_ok (a := ((ys.length : Nat) : Int) * wsQ ys 0 ys.length - wsS ys 0 ys.length * wsS ys 0 ys.length) (b := ((ys.length : Nat) : Int)) (by omega) (by omega) (by omega)) ?_
    rw [show ((((ys.length : Nat) : Int) * wsQ ys 0 ys.length - wsS ys 0 ys.length * wsS ys 0 ys.length : Int) : Rat) / (((ys.length : Nat) : Int) : Rat) = pieR ys 0 ys.length from rfl]
    (repeat (first | refine gst (hk := ?_) | (show GO _ _ _ _ _ (⟨some _, none, _⟩ :: _) _; first | refine go_op (hk := ?_) | (refine go_nw (hk := ?_); intro u; try simp only [llc, lln, lna, lza]) | (refine go_np (hk := ?_); intro id)) | (show GO _ _ _ _ _ (⟨none, none, _⟩ :: _) _; refine go_st (hk := ?_)) | (show GO _ _ _ _ _ (⟨_, some _, _⟩ :: _) _; first | refine go_in (hk := ?_) | refine go_out (hk := ?_) | refine go_void (hk := ?_)) | (show GK _ _ _ _ (blockK _ _ _); refine gk_past rfl ?_) | (show GC _ _ _ _ _ (.cond _ _ _) _; first | refine gc_yes (h1 := ?_) | refine gc_no (h1 := ?_))))
    exact gk_rets (rvs_c rfl (by exact Sel.auto) rfl rfl rvs_nil) fun H' hH => ⟨rfl, hH.leE⟩

theorem sumY_eq {f g : Nat → Int} : ∀ {d : Nat}, (∀ j, j < d → f j = g j) → sumY f d = sumY g d
  | 0, _ => rfl
  | d + 1, h => by
    show sumY f d + f d = sumY g d + g d
    rw [sumY_eq fun j hj => h j (by omega), h d (by omega)]

theorem pie_win {xs : List Int} {i k : Nat} (h2 : k ≤ xs.length) : pieR (winL xs i k) 0 (winL xs i k).length = pieR xs i k := by
  have e0 := win_len2 (xs := xs) (i := i) h2
  have e1 : wsS (winL xs i k) 0 (k - i) = wsS xs i (k - i) := sumY_eq fun j hj => by rw [Nat.zero_add, win_nth h2 hj]
  have e2 : wsQ (winL xs i k) 0 (k - i) = wsQ xs i (k - i) := sumY_eq fun j hj => by rw [Nat.zero_add, win_nth h2 hj]
  rw [e0]
  unfold pieR
  rw [Nat.sub_zero, e1, e2]

theorem Steps.win {xs : List Int} (h : Steps xs) (i k : Nat) (j : Nat) : -30 ≤ nth (winL xs i k) j ∧ nth (winL xs i k) j ≤ 30 :=
  (Bd.nth (fun x hx => h.1 x (by unfold winL at hx; exact List.mem_of_mem_drop (List.mem_of_mem_take hx)) : Bd 30 (winL xs i k)) (by omega) j)

def MpO (ob : Nat → Option OB) (id : Nat) (es : List ME) (clk : Nat) : Prop := ∃ o, ob id = some o ∧ o.mo = some (.map es clk)

def ItO (ob : Nat → Option OB) (id m since : Nat) (seen : List Nat) (last : Nat) : Prop := ∃ o, ob id = some o ∧ o.mo = some (.iter m since seen last)

def seo (ob : Nat → Option OB) (id : Nat) (o : OB) : Nat → Option OB := fun i => if i = id then some o else ob i

theorem mp_same {ob : Nat → Option OB} {id : Nat} {es : List ME} {clk : Nat} : MpO (seo ob id (obM (.map es clk))) id es clk := ⟨obM (.map es clk), by simp [seo], rfl⟩

theorem it_same {ob : Nat → Option OB} {id m since last : Nat} {seen : List Nat} : ItO (seo ob id (obM (.iter m since seen last))) id m since seen last := ⟨obM (.iter m since seen last), by simp [seo], rfl⟩

theorem mp_other {ob : Nat → Option OB} {id j : Nat} {es : List ME} {clk : Nat} {o : OB} (h : MpO ob j es clk) (hn : j ≠ id) : MpO (seo ob id o) j es clk := by
  obtain ⟨x, h1, h2⟩ := h
  exact ⟨x, by simp only [seo]; rw [if_neg hn]; exact h1, h2⟩

theorem it_other {ob : Nat → Option OB} {id j m since last : Nat} {seen : List Nat} {o : OB} (h : ItO ob j m since seen last) (hn : j ≠ id) : ItO (seo ob id o) j m since seen last := by
  obtain ⟨x, h1, h2⟩ := h
  exact ⟨x, by simp only [seo]; rw [if_neg hn]; exact h1, h2⟩

theorem mp_fresh {ob : Nat → Option OB} {id j : Nat} {es : List ME} {clk : Nat} (h : MpO ob j es clk) (hn : ob id = none) : j ≠ id := by
  rintro rfl
  obtain ⟨x, h1, _⟩ := h
  rw [hn] at h1; cases h1

theorem mp_it {ob : Nat → Option OB} {id j m since last : Nat} {seen : List Nat} {es : List ME} {clk : Nat} (h : MpO ob j es clk) (h' : ItO ob id m since seen last) : j ≠ id := by
  rintro rfl
  obtain ⟨x, h1, h2⟩ := h
  obtain ⟨y, h3, h4⟩ := h'
  rw [h1] at h3; cases h3
  rw [h2] at h4; cases h4

theorem mp_eq {ob ob' : Nat → Option OB} {j : Nat} {es : List ME} {clk : Nat} (h : MpO ob j es clk) (he : ob' j = ob j) : MpO ob' j es clk := by
  obtain ⟨x, h1, h2⟩ := h
  exact ⟨x, by rw [he]; exact h1, h2⟩

/-- what was there is there, but for some -/
def ExO (ob0 ob : Nat → Option OB) (I : List Nat) : Prop := ∀ j o, j ∉ I → ob0 j = some o → ob j = some o

theorem ExO.refl (ob : Nat → Option OB) (I : List Nat) : ExO ob ob I := fun _ _ _ h => h

theorem ExO.new {ob0 ob : Nat → Option OB} {I : List Nat} (h : ExO ob0 ob I) {id : Nat} (hn : ob id = none) (o : OB) : ExO ob0 (seo ob id o) I := fun j p h1 h2 => by
  have h3 := h j p h1 h2
  have : j ≠ id := by rintro rfl; rw [hn] at h3; cases h3
  simp only [seo]; rw [if_neg this]; exact h3

theorem ExO.gone {ob0 ob : Nat → Option OB} {I : List Nat} (h : ExO ob0 ob I) {id : Nat} (hi : id ∉ I) (hn : ob id = none) : ob0 id = none := by
  cases h0 : ob0 id with
  | none => rfl
  | some o => rw [h id o hi h0] at hn; cases hn

theorem ExO.mod {ob0 ob : Nat → Option OB} {I : List Nat} (h : ExO ob0 ob I) {id : Nat} (hn : ob0 id = none ∨ id ∈ I) (o : OB) : ExO ob0 (seo ob id o) I := fun j p h1 h2 => by
  have : j ≠ id := by
    rintro rfl
    rcases hn with hn | hn
    · rw [hn] at h2; cases h2
    · exact h1 hn
  simp only [seo]; rw [if_neg this]; exact h j p h1 h2

/-- fewer objects may be told -/
theorem acalls_obs {P : Program} {f : FuncId} {args : List AV} {H : Heap} {R R' : AV → Heap → Prop} (h : ACalls P f args H R)
    (hw : ∀ r H', R r H' → ∃ ob, R' r ⟨H'.size, H'.get, ob⟩ ∧ ∀ i o, ob i = some o → H'.ob i = some o) : ACalls P f args H R' :=
  fun ι w us h1 h2 => (h ι w us h1 h2).mono fun e w' ⟨r, u, H', ι', a1, a2, a3, a4, a5⟩ => by
    obtain ⟨ob, b1, b2⟩ := hw r H' a2
    exact ⟨r, u, ⟨H'.size, H'.get, ob⟩, ι', a1, b1, a3, ⟨a4.fresh, a4.blk, a4.apart, fun id o h => a4.obs id o (b2 id o h), fun id o r id' o' r' g1 g2 => a4.oapart id o r id' o' r' (b2 _ _ g1) (b2 _ _ g2), a4.gl⟩,
      ⟨a5.le, a5.size, a5.wsize, a5.os, a5.tape, a5.output, a5.rows, a5.news, fun id o r g1 g2 => a5.newo id o r (b2 _ _ g1) g2⟩⟩

theorem sok_mapAt {A : Heap} {X : List Nat} {S : Sig} {m : Nat} {H : Heap} {ob : Nat → Option OB} {id : Nat} {es : List ME} {clk : Nat} (h : SOk (A.obs ob) X S m H) (hm : MpO ob id es clk) : H.mapAt (.map id) = some (id, es, clk) := by
  obtain ⟨o, h1, h2⟩ := hm
  have : H.ob = ob := h.le.ob
  simp only [Heap.mapAt, this, h1, h2]

theorem sok_iterAt {A : Heap} {X : List Nat} {S : Sig} {n : Nat} {H : Heap} {ob : Nat → Option OB} {id m since last : Nat} {seen : List Nat} (h : SOk (A.obs ob) X S n H) (hm : ItO ob id m since seen last) : H.iterAt (.ptr id 0) = some (id, m, since, seen, last) := by
  obtain ⟨o, h1, h2⟩ := hm
  have : H.ob = ob := h.le.ob
  simp only [Heap.iterAt, this, h1, h2]

theorem sok_seto {A : Heap} {X : List Nat} {S : Sig} {H : Heap} {ob : Nat → Option OB} (h : SOk (A.obs ob) X S H.size H) (id : Nat) (o : OB) : SOk (A.obs (seo ob id o)) X S (H.seto id (some o)).size (H.seto id (some o)) := by
  have hob : H.ob = ob := h.le.ob
  have := h.obs (seo ob id o) (Nat.le_refl _) (Nat.le_refl _)
  have e : H.seto id (some o) = ⟨H.size, H.get, seo ob id o⟩ := by unfold Heap.seto seo; rw [hob]
  rw [e]; exact this

theorem sok_newo {A : Heap} {X : List Nat} {S : Sig} {H : Heap} {ob : Nat → Option OB} (h : SOk (A.obs ob) X S H.size H) (o : OB) : SOk (A.obs (seo ob H.size o)) X S (H.newo o).size (H.newo o) := by
  have hob : H.ob = ob := h.le.ob
  have := h.obs (seo ob H.size o) (Nat.le_succ _) (Nat.le_refl _)
  have e : H.newo o = ⟨H.size + 1, H.get, seo ob H.size o⟩ := by unfold Heap.newo seo; rw [hob]
  rw [e]; exact this

theorem go_mk {P : Program} {A : Heap} {X : List Nat} {E : List (Nat × AV)} {S : Sig} {r : List MI} {K : St → Prop} {ob : Nat → Option OB} {d : Nat} (hk : ∀ id, ob id = none → GO P (A.obs (seo ob id (obM (.map [] 0)))) X ((d, .map id) :: E) S r K) : GO P (A.obs ob) X E S (⟨some d, none, .mq .mk⟩ :: r) K := by
  refine ⟨fun s hf => ?_⟩
  rw [mops_cons]
  simp only [mone, mexec, mmq]
  intro h1 h2
  rw [show s.H.ob = ob from hf.ok.le.ob] at h2
  exact (hk s.H.size h2).g _ ⟨look_cons hf.env d _, sok_newo hf.ok _⟩

theorem go_rg {P : Program} {A : Heap} {X : List Nat} {E : List (Nat × AV)} {S : Sig} {r : List MI} {K : St → Prop} {ob : Nat → Option OB} {d m : Nat} {x : MX} {es : List ME} {clk : Nat} (hx : evE E x = some (.map m)) (hm : MpO ob m es clk)
    (hk : ∀ id, ob id = none → GO P (A.obs (seo ob id (obM (.iter m clk [] clk)))) X ((d, .ptr id 0) :: E) S r K) : GO P (A.obs ob) X E S (⟨some d, none, .mq (.rg x)⟩ :: r) K := by
  refine ⟨fun s hf => ?_⟩
  rw [mops_cons]
  simp only [mone, mexec, mmq, ev_of hf.env hx, sok_mapAt hf.ok hm]
  intro h1 h2
  rw [show s.H.ob = ob from hf.ok.le.ob] at h2
  exact (hk s.H.size h2).g _ ⟨look_cons hf.env d _, sok_newo hf.ok _⟩

theorem go_nx {P : Program} {A : Heap} {X : List Nat} {E : List (Nat × AV)} {S : Sig} {r : List MI} {K : St → Prop} {ob : Nat → Option OB} {d id m since last : Nat} {seen : List Nat} {x : MX} {es : List ME} {clk : Nat} (hx : evE E x = some (.ptr id 0)) (hi : ItO ob id m since seen last) (hm : MpO ob m es clk)
    (h1 : ∀ e ∈ es, e.born < since) (h2 : since ≤ last) (h3 : (∀ e ∈ es, e.born ∈ seen) → GO P (A.obs ob) X ((d, .tuple [.bool false]) :: E) S r K)
    (h4 : ∀ e ∈ es, e.born ∉ seen → GO P (A.obs (seo ob id (obM (.iter m since (seen ++ [e.born]) clk)))) X ((d, .tuple [.bool true, e.key, e.val]) :: E) S r K) : GO P (A.obs ob) X E S (⟨some d, none, .mq (.nx x)⟩ :: r) K := by
  refine ⟨fun s hf => ?_⟩
  rw [mops_cons]
  simp only [mone, mexec, mmq, ev_of hf.env hx, sok_iterAt hf.ok hi, sok_mapAt hf.ok hm]
  exact ⟨h1, h2, fun g => (h3 g).g _ ⟨look_cons hf.env d _, hf.ok⟩, fun e he hn => (h4 e he hn).g _ ⟨look_cons hf.env d _, sok_seto hf.ok _ _⟩⟩

theorem go_en {P : Program} {A : Heap} {X : List Nat} {E : List (Nat × AV)} {S : Sig} {r : List MI} {K : St → Prop} {ob : Nat → Option OB} {d id m since last : Nat} {seen : List Nat} {x : MX} {es : List ME} {e : ME} (hx : evE E x = some (.ptr id 0)) (hi : ItO ob id m since (seen ++ [e.born]) last) (hm : MpO ob m es last)
    (he : e ∈ es) (hn : (es.map (·.born)).Nodup) (hk : GO P (A.obs ob) X ((d, .tuple [e.key, e.val]) :: E) S r K) : GO P (A.obs ob) X E S (⟨some d, none, .mq (.en x)⟩ :: r) K := by
  refine ⟨fun s hf => ?_⟩
  rw [mops_cons]
  have key : ∀ l : List ME, e ∈ l → (l.map (·.born)).Nodup → l.find? (fun q => q.born == e.born) = some e := by
    intro l
    induction l with
    | nil => intro h; simp at h
    | cons q l ih =>
      intro hm hn
      rw [List.map_cons, List.nodup_cons] at hn
      rw [List.find?_cons]
      rcases List.mem_cons.1 hm with rfl | hm
      · simp
      · have : ¬ q.born = e.born := fun h => hn.1 (by rw [h]; exact List.mem_map.2 ⟨e, hm, rfl⟩)
        have h2 : (q.born == e.born) = false := by simpa using this
        rw [h2]; exact ih hm hn.2
  simp only [mone, mexec, mmq, ev_of hf.env hx, sok_iterAt hf.ok hi, sok_mapAt hf.ok hm, List.getLast?_append, List.getLast?_singleton, Option.some_or, key es he hn]
  exact ⟨trivial, hk.g _ ⟨look_cons hf.env d _, hf.ok⟩⟩

theorem go_lk {P : Program} {A : Heap} {X : List Nat} {E : List (Nat × AV)} {S : Sig} {r : List MI} {K : St → Prop} {ob : Nat → Option OB} {d m : Nat} {x i : MX} {st : Bool} {z k v : AV} {j : Nat} {es : List ME} {clk : Nat} (hx : evE E x = some (.map m)) (hi : evE E i = some k) (hm : MpO ob m es clk)
    (hf : findA st k es 0 = some (some (j, v))) (hk : GO P (A.obs ob) X ((d, v) :: E) S r K) : GO P (A.obs ob) X E S (⟨some d, none, .mq (.lk x i false st z)⟩ :: r) K := by
  refine ⟨fun s hs => ?_⟩
  rw [mops_cons]
  simp only [mone, mexec, mmq, ev_of hs.env hx, ev_of hs.env hi, sok_mapAt hs.ok hm, hf, Bool.false_eq_true, if_false]
  exact hk.g _ ⟨look_cons hs.env d _, hs.ok⟩

/-- a new entry -/
theorem go_up {P : Program} {A : Heap} {X : List Nat} {E : List (Nat × AV)} {S : Sig} {r : List MI} {K : St → Prop} {ob : Nat → Option OB} {m : Nat} {x i y : MX} {st : Bool} {k v : AV} {es : List ME} {clk : Nat} (hx : evE E x = some (.map m)) (hi : evE E i = some k) (hy : evE E y = some v) (hm : MpO ob m es clk)
    (hf : findA st k es 0 = some none) (hk : GO P (A.obs (seo ob m (obM (.map (es ++ [⟨k, v, clk⟩]) (clk + 1))))) X E S r K) : GO P (A.obs ob) X E S (⟨none, none, .mq (.up x i y st)⟩ :: r) K := by
  refine ⟨fun s hs => ?_⟩
  rw [mops_cons]
  simp only [mone, mexec, mmq, ev_of hs.env hx, ev_of hs.env hi, ev_of hs.env hy, sok_mapAt hs.ok hm, hf]
  exact hk.g _ ⟨hs.env, sok_seto hs.ok _ _⟩

end Go.Rx.Try
