import Derived.Test.YtophpmdlgphihabFnPiecesTriedD1
namespace Go.Rx.Try
open Go.Proofs
set_option maxRecDepth 100000
set_option maxHeartbeats 8000000
set_option linter.unusedSimpArgs false
set_option linter.unusedVariables false

theorem PtsT.succ {xs ys : List Int} {i : Nat} (h : PtsT xs ys i) (h1 : i < ys.length) (h2 : -12 ≤ nth xs i ∧ nth xs i ≤ 12) (h3 : -12 ≤ nth ys i ∧ nth ys i ≤ 12) : PtsT xs ys (i + 1) := by
  intro k hk
  rcases Nat.lt_or_ge k i with h4 | h4
  · exact h k h4
  · rw [show k = i by omega]; exact ⟨h1, h2, h3⟩

def dotT (xs ys : List Int) : Nat → Int
  | 0 => 0
  | i + 1 => dotT xs ys i + nth xs i * nth ys i

abbrev fr0 : AV := .agg [.int .i64 0, .int .i64 0]

abbrev cel0 (i : Nat) : Ch := ⟨.cell, .ptr i 0, 2, 1, [.int .i64 0, .int .i64 0]⟩

abbrev celF (i : Nat) (q : Rat) : Ch := ⟨.cell, .ptr i 0, 2, 1, [.int .i64 q.num, .int .i64 (q.den : Int)]⟩

def frC (q : Rat) : List AV := [.int .i64 q.num, .int .i64 (q.den : Int)]

def frs : List Rat → List AV
  | [] => []
  | q :: L => frC q ++ frs L

theorem frs_app : ∀ L M : List Rat, frs (L ++ M) = frs L ++ frs M
  | [], M => rfl
  | q :: L, M => by rw [List.cons_append, frs, frs, frs_app L M, List.append_assoc]

theorem frs_one : ∀ L : List Rat, (frs L).all AV.one = true
  | [] => rfl
  | q :: L => by rw [frs, List.all_append, frs_one L]; rfl

theorem frs_take : ∀ (L : List Rat) (k : Nat), (frs L).take (k * 2) = frs (L.take k)
  | [], k => by simp [frs]
  | q :: L, 0 => by simp [frs]
  | q :: L, k + 1 => by
    rw [List.take_succ_cons, frs, frs, show (k + 1) * 2 = (frC q).length + k * 2 by simp [frC]; omega, List.take_length_add_append, frs_take L k]

theorem frs_drop : ∀ (L : List Rat) (k : Nat), (frs L).drop (k * 2) = frs (L.drop k)
  | [], k => by simp [frs]
  | q :: L, 0 => by simp
  | q :: L, k + 1 => by
    rw [List.drop_succ_cons, frs, show (k + 1) * 2 = (frC q).length + k * 2 by simp [frC]; omega, List.drop_length_add_append, frs_drop L k]

def nthR (L : List Rat) (i : Nat) : Rat := L.getD i 0

theorem nthR_of {L : List Rat} {i : Nat} (h : i < L.length) : nthR L i = L[i] := by
  unfold nthR
  rw [List.getD_eq_getElem?_getD, List.getElem?_eq_getElem h]; rfl

theorem frs_at {L : List Rat} {i : Nat} (h : i < L.length) : ((frs L).drop (i * 2)).take 2 = frC (nthR L i) := by
  have h1 := frs_take (L.drop i) 1
  rw [Nat.one_mul] at h1
  rw [frs_drop, h1, nthR_of h, List.drop_eq_getElem_cons h, List.take_succ_cons]
  simp [frs]

theorem stp_ldF {A : Heap} {X : List Nat} {E : List (Nat × AV)} {S : Sig} {p : MX} {v : AV} {n i : Nat} {L : List Rat} (hp : evE E p = some (v.elem i)) (hh : Has S v 2 n (frs L)) (hn : n = L.length) (hi : i < L.length) : Stp A X E S (.ld p 2 true) (Is (frV (nthR L i)) S) :=
  stp_ldn hp hh (by omega) (frs_at hi) rfl

theorem stp_appF {A : Heap} {X : List Nat} {E : List (Nat × AV)} {S S0 : Sig} {v w : AV} {x y : MX} {n m' : Nat} {L M : List Rat} (hx : evE E x = some v) (hy : evE E y = some w) (hs : Sel S ⟨.rw, v, 2, n, frs L⟩ S0) (hh : Has S w 2 m' (frs M)) (hm2 : n + m' ≤ 1000000000000) :
    Stp A X E S (.app x y 2 16) (New fun u => ⟨.rw, u, 2, n + m', frs (L ++ M)⟩ :: S0) := by
  simp only [frs_app]
  exact stp_app hx hy hs hh (frs_one M) (by omega) (by omega) hm2

abbrev rwF (u : AV) (n : Nat) (L : List Rat) : Ch := ⟨.rw, u, 2, n, frs L⟩

abbrev roF (u : AV) (n : Nat) (L : List Rat) : Ch := ⟨.ro, u, 2, n, frs L⟩

def DifT (xs : List Int) (n : Nat) : Prop := ∀ i, i < n → ∀ k, k < i → nth xs i ≠ nth xs k

def Dif (xs : List Int) : Prop := DifT xs xs.length

noncomputable instance (xs : List Int) : Decidable (Dif xs) := Classical.propDecidable _

theorem nthR_app {L M : List Rat} {i : Nat} (h : i < L.length) : nthR (L ++ M) i = nthR L i := by
  unfold nthR
  rw [List.getD_eq_getElem?_getD, List.getD_eq_getElem?_getD, List.getElem?_append_left h]

theorem nthR_last {L : List Rat} {q : Rat} : nthR (L ++ [q]) L.length = q := by
  unfold nthR
  rw [List.getD_eq_getElem?_getD, List.getElem?_append_right (Nat.le_refl _)]; simp

def CvOk (xs ys : List Int) : Prop := (Pts xs ys ∧ (1 ≤ (xs.length : Int) ∧ (xs.length : Int) ≤ 5)) ∧ Dif xs

noncomputable instance (xs ys : List Int) : Decidable (CvOk xs ys) := Classical.propDecidable _

theorem nthR_ext {L M : List Rat} (h : L.length = M.length) (hk : ∀ k, k < L.length → nthR L k = nthR M k) : L = M := by
  refine List.ext_getElem h fun i h1 h2 => ?_
  have := hk i h1
  rwa [nthR_of h1, nthR_of h2] at this

theorem implApart0_ok {H : Heap} {x : Int} (hx : -4611686018427387904 ≤ x ∧ x ≤ 4611686018427387904) : ACalls Try.prog fn_impl_apart [.int .i64 x, .int .i64 0] H fun r H' => r = .int .i64 (max x (-x)) ∧ H' = H := by
  refine ACalls.val ?_ rfl
  refine code_impl_apart.go [] trivial (by simp) ?_
  unfold mc_impl_apart
  (repeat (first | refine gst (hk := ?_) | (show GO _ _ _ _ _ (⟨some _, none, _⟩ :: _) _; first | refine go_op (hk := ?_) | (refine go_nw (hk := ?_); intro u; try simp only [llc, lln, lna, lza]) | (refine go_np (hk := ?_); intro id)) | (show GO _ _ _ _ _ (⟨none, none, _⟩ :: _) _; refine go_st (hk := ?_)) | (show GO _ _ _ _ _ (⟨_, some _, _⟩ :: _) _; first | refine go_in (hk := ?_) | refine go_out (hk := ?_) | refine go_void (hk := ?_)) | (show GK _ _ _ _ (blockK _ _ _); refine gk_past rfl ?_) | (show GC _ _ _ _ _ (.cond _ _ _) _; first | refine gc_yes (h1 := ?_) | refine gc_no (h1 := ?_))))
  exact gk_ret rfl fun H' hH => ⟨by show AV.int _ (max (x - 0) (0 - x)) = _; congr 1; omega, hH.leE⟩

theorem commonFactor_ok {H : Heap} {a b : Int} (ha : -4611686018427387904 ≤ a ∧ a ≤ 4611686018427387904) (hb : -4611686018427387904 ≤ b ∧ b ≤ 4611686018427387904) :
    ACalls Try.prog fn_impl_commonFactor [.int .i64 a, .int .i64 b] H fun r H' => r = .int .i64 (Int.gcd a b : Nat) ∧ H' = H := by
  refine ACalls.val ?_ rfl
  refine code_impl_commonFactor.go [] trivial (by simp) ?_
  unfold mc_impl_commonFactor
  (repeat (first | refine gst (hk := ?_) | (with_reducible refine gc_drq ?_; intro _) | (show GO _ _ _ _ _ (⟨some _, none, _⟩ :: _) _; first | refine go_op (hk := ?_) | (refine go_nw (hk := ?_); intro u; try simp only [llc, lln, lna, lza]) | (refine go_np (hk := ?_); intro id)) | (show GQ _ _ _ _ _ _ _ (⟨some _, none, _⟩ :: _) _; first | refine gq_op (hk := ?_) | (refine gq_nw (hk := ?_); intro u; try simp only [llc, lln, lna, lza])) | (show GO _ _ _ _ _ (⟨none, none, _⟩ :: _) _; refine go_st (hk := ?_)) | (show GO _ _ _ _ _ (⟨_, some _, _⟩ :: _) _; first | refine go_in (hk := ?_) | refine go_out (hk := ?_) | refine go_void (hk := ?_)) | (show GQ _ _ _ _ _ _ _ (⟨_, some _, _⟩ :: _) _; first | refine gq_in (hk := ?_) | refine gq_out (hk := ?_) | refine gq_void (hk := ?_)) | (show GK _ _ _ _ (blockK _ _ _); refine gk_past rfl ?_) | (show GC _ _ _ _ _ (.cond _ _ _) _; first | refine gc_yes (h1 := ?_) | refine gc_no (h1 := ?_))))
  refine gc_loop (γ := Int × Int) (fun t => [(0, .int .i64 t.1), (1, .int .i64 t.2)]) (fun _ => []) (fun t => Int.gcd t.1 t.2 = Int.gcd a b ∧ (-4611686018427387904 ≤ t.1 ∧ t.1 ≤ 4611686018427387904) ∧ (-4611686018427387904 ≤ t.2 ∧ t.2 ≤ 4611686018427387904)) (fun t => t.2.natAbs) (a, b) ⟨rfl, ha, hb⟩ (hb := ?_)
  rintro ⟨x, y⟩ ⟨h1, h2, h3⟩ I ν m hk
  simp only at h1 h2 h3 hk ⊢
  (repeat (first | refine gst (hk := ?_) | (with_reducible refine gc_drq ?_; intro _) | (show GO _ _ _ _ _ (⟨some _, none, _⟩ :: _) _; first | refine go_op (hk := ?_) | (refine go_nw (hk := ?_); intro u; try simp only [llc, lln, lna, lza]) | (refine go_np (hk := ?_); intro id)) | (show GQ _ _ _ _ _ _ _ (⟨some _, none, _⟩ :: _) _; first | refine gq_op (hk := ?_) | (refine gq_nw (hk := ?_); intro u; try simp only [llc, lln, lna, lza])) | (show GO _ _ _ _ _ (⟨none, none, _⟩ :: _) _; refine go_st (hk := ?_)) | (show GO _ _ _ _ _ (⟨_, some _, _⟩ :: _) _; first | refine go_in (hk := ?_) | refine go_out (hk := ?_) | refine go_void (hk := ?_)) | (show GQ _ _ _ _ _ _ _ (⟨_, some _, _⟩ :: _) _; first | refine gq_in (hk := ?_) | refine gq_out (hk := ?_) | refine gq_void (hk := ?_)) | (show GK _ _ _ _ (blockK _ _ _); refine gk_past rfl ?_) | (show GC _ _ _ _ _ (.cond _ _ _) _; first | refine gc_yes (h1 := ?_) | refine gc_no (h1 := ?_))))
  refine gc_cond rfl (fun h => ?_) (fun h => ?_)
  · have h4 : (x.tmod y).natAbs < y.natAbs := by
      rw [Int.natAbs_tmod]; exact Nat.mod_lt _ (by omega)
    (repeat (first | refine gst (hk := ?_) | (with_reducible refine gc_drq ?_; intro _) | (show GO _ _ _ _ _ (⟨some _, none, _⟩ :: _) _; first | refine go_op (hk := ?_) | (refine go_nw (hk := ?_); intro u; try simp only [llc, lln, lna, lza]) | (refine go_np (hk := ?_); intro id)) | (show GQ _ _ _ _ _ _ _ (⟨some _, none, _⟩ :: _) _; first | refine gq_op (hk := ?_) | (refine gq_nw (hk := ?_); intro u; try simp only [llc, lln, lna, lza])) | (show GO _ _ _ _ _ (⟨none, none, _⟩ :: _) _; refine go_st (hk := ?_)) | (show GO _ _ _ _ _ (⟨_, some _, _⟩ :: _) _; first | refine go_in (hk := ?_) | refine go_out (hk := ?_) | refine go_void (hk := ?_)) | (show GQ _ _ _ _ _ _ _ (⟨_, some _, _⟩ :: _) _; first | refine gq_in (hk := ?_) | refine gq_out (hk := ?_) | refine gq_void (hk := ?_)) | (show GK _ _ _ _ (blockK _ _ _); refine gk_past rfl ?_) | (show GC _ _ _ _ _ (.cond _ _ _) _; first | refine gc_yes (h1 := ?_) | refine gc_no (h1 := ?_))))
    refine gq_is rfl (stp_rem rfl rfl h) ?_
    (repeat (first | refine gst (hk := ?_) | (with_reducible refine gc_drq ?_; intro _) | (show GO _ _ _ _ _ (⟨some _, none, _⟩ :: _) _; first | refine go_op (hk := ?_) | (refine go_nw (hk := ?_); intro u; try simp only [llc, lln, lna, lza]) | (refine go_np (hk := ?_); intro id)) | (show GQ _ _ _ _ _ _ _ (⟨some _, none, _⟩ :: _) _; first | refine gq_op (hk := ?_) | (refine gq_nw (hk := ?_); intro u; try simp only [llc, lln, lna, lza])) | (show GO _ _ _ _ _ (⟨none, none, _⟩ :: _) _; refine go_st (hk := ?_)) | (show GO _ _ _ _ _ (⟨_, some _, _⟩ :: _) _; first | refine go_in (hk := ?_) | refine go_out (hk := ?_) | refine go_void (hk := ?_)) | (show GQ _ _ _ _ _ _ _ (⟨_, some _, _⟩ :: _) _; first | refine gq_in (hk := ?_) | refine gq_out (hk := ?_) | refine gq_void (hk := ?_)) | (show GK _ _ _ _ (blockK _ _ _); refine gk_past rfl ?_) | (show GC _ _ _ _ _ (.cond _ _ _) _; first | refine gc_yes (h1 := ?_) | refine gc_no (h1 := ?_))))
    exact gk_next (hk (y, x.tmod y) ⟨by rw [tmod_gcd]; exact h1, h3, by simp only; omega⟩ h4)
  · have hy : y = 0 := by omega
    subst hy
    have e : (Int.gcd a b : Nat) = x.natAbs := by rw [← h1]; simp [Int.gcd]
    (repeat (first | refine gst (hk := ?_) | (with_reducible refine gc_drq ?_; intro _) | (show GO _ _ _ _ _ (⟨some _, none, _⟩ :: _) _; first | refine go_op (hk := ?_) | (refine go_nw (hk := ?_); intro u; try simp only [llc, lln, lna, lza]) | (refine go_np (hk := ?_); intro id)) | (show GQ _ _ _ _ _ _ _ (⟨some _, none, _⟩ :: _) _; first | refine gq_op (hk := ?_) | (refine gq_nw (hk := ?_); intro u; try simp only [llc, lln, lna, lza])) | (show GO _ _ _ _ _ (⟨none, none, _⟩ :: _) _; refine go_st (hk := ?_)) | (show GO _ _ _ _ _ (⟨_, some _, _⟩ :: _) _; first | refine go_in (hk := ?_) | refine go_out (hk := ?_) | refine go_void (hk := ?_)) | (show GQ _ _ _ _ _ _ _ (⟨_, some _, _⟩ :: _) _; first | refine gq_in (hk := ?_) | refine gq_out (hk := ?_) | refine gq_void (hk := ?_)) | (show GK _ _ _ _ (blockK _ _ _); refine gk_past rfl ?_) | (show GC _ _ _ _ _ (.cond _ _ _) _; first | refine gc_yes (h1 := ?_) | refine gc_no (h1 := ?_))))
    refine go_callp rfl code_impl_apart.callable (fun H hH => implApart0_ok h2) ?_
    (repeat (first | refine gst (hk := ?_) | (with_reducible refine gc_drq ?_; intro _) | (show GO _ _ _ _ _ (⟨some _, none, _⟩ :: _) _; first | refine go_op (hk := ?_) | (refine go_nw (hk := ?_); intro u; try simp only [llc, lln, lna, lza]) | (refine go_np (hk := ?_); intro id)) | (show GQ _ _ _ _ _ _ _ (⟨some _, none, _⟩ :: _) _; first | refine gq_op (hk := ?_) | (refine gq_nw (hk := ?_); intro u; try simp only [llc, lln, lna, lza])) | (show GO _ _ _ _ _ (⟨none, none, _⟩ :: _) _; refine go_st (hk := ?_)) | (show GO _ _ _ _ _ (⟨_, some _, _⟩ :: _) _; first | refine go_in (hk := ?_) | refine go_out (hk := ?_) | refine go_void (hk := ?_)) | (show GQ _ _ _ _ _ _ _ (⟨_, some _, _⟩ :: _) _; first | refine gq_in (hk := ?_) | refine gq_out (hk := ?_) | refine gq_void (hk := ?_)) | (show GK _ _ _ _ (blockK _ _ _); refine gk_past rfl ?_) | (show GC _ _ _ _ _ (.cond _ _ _) _; first | refine gc_yes (h1 := ?_) | refine gc_no (h1 := ?_))))
    exact gk_ret rfl fun H' hH => ⟨by rw [e]; show AV.int _ (max x (-x)) = _; congr 1; omega, hH.leE⟩

theorem tdiv_negneg {a g : Int} (h : 0 < g) : a.tdiv (-g) = (-a).tdiv g := by
  rw [Int.tdiv_neg, Int.neg_tdiv]

theorem lowest_ok {H : Heap} {a b : Int} (ha : -4611686018427387904 ≤ a ∧ a ≤ 4611686018427387904) (hb : -4611686018427387904 ≤ b ∧ b ≤ 4611686018427387904) (h0 : b ≠ 0) :
    ACalls Try.prog fn_impl_lowest [.int .i64 a, .int .i64 b] H fun r H' => r = frV ((a : Rat) / (b : Rat)) ∧ H' = H := by
  refine ACalls.val ?_ rfl
  have hg : (0 : Int) < (Int.gcd a b : Nat) := by
    have := Int.gcd_pos_of_ne_zero_right a h0
    omega
  have hg2 : (Int.gcd a b : Nat) ≤ b.natAbs := Nat.le_of_dvd (by omega) (Int.gcd_dvd_natAbs_right a b)
  obtain ⟨e1, e2⟩ := div_num (a := a) h0
  refine code_impl_lowest.go [] trivial (by simp) ?_
  unfold mc_impl_lowest
  (repeat (first | refine gst (hk := ?_) | (with_reducible first | (refine gc_drw (h := ?_); intro _) | (refine gc_drw2 (h := ?_); intro _)) | (show GO _ _ _ _ _ (⟨some _, none, _⟩ :: _) _; first | refine go_op (hk := ?_) | (refine go_nw (hk := ?_); intro u; try simp only [llc, lln, lna, lza]) | (refine go_np (hk := ?_); intro id)) | (show GD _ _ _ _ _ _ _ (⟨some _, none, _⟩ :: _) _; first | refine gd_op (hk := ?_) | (refine gd_nw (hk := ?_); intro u; try simp only [llc, lln, lna, lza])) | (show GD2 _ _ _ _ _ _ _ _ _ _ _ _ _ _; first | refine gd2_nil rfl ?_ | refine gd2_op (hk := ?_) | (refine gd2_nw (hk := ?_); intro u; try simp only [llc, lln, lna, lza]) | refine gd2_l (hk := ?_) | refine gd2_lp (hk := ?_) | (refine gd2_newp (hk := ?_); intro id) | refine gd2_st (hk := ?_) | (refine gd2_bsl rfl rfl ?_; intro u; try simp only [llc, lln, lna, lza]) | (refine gd2_a (hk := ?_); intro u; try simp only [llc, lln, lna, lza])) | (show GO _ _ _ _ _ (⟨none, none, _⟩ :: _) _; refine go_st (hk := ?_)) | (show GD _ _ _ _ _ _ _ (⟨none, none, _⟩ :: _) _; refine gd_st (hk := ?_)) | (show GO _ _ _ _ _ (⟨_, some _, _⟩ :: _) _; first | refine go_in (hk := ?_) | refine go_out (hk := ?_) | refine go_void (hk := ?_)) | (show GK _ _ _ _ (blockK _ _ _); refine gk_past rfl ?_) | (show GC _ _ _ _ _ (.cond _ _ _) _; first | refine gc_yes (h1 := ?_) | refine gc_no (h1 := ?_))))
  refine go_callp rfl code_impl_commonFactor.callable (fun H hH => commonFactor_ok (by omega) (by omega)) ?_
  (repeat (first | refine gst (hk := ?_) | (with_reducible first | (refine gc_drw (h := ?_); intro _) | (refine gc_drw2 (h := ?_); intro _)) | (show GO _ _ _ _ _ (⟨some _, none, _⟩ :: _) _; first | refine go_op (hk := ?_) | (refine go_nw (hk := ?_); intro u; try simp only [llc, lln, lna, lza]) | (refine go_np (hk := ?_); intro id)) | (show GD _ _ _ _ _ _ _ (⟨some _, none, _⟩ :: _) _; first | refine gd_op (hk := ?_) | (refine gd_nw (hk := ?_); intro u; try simp only [llc, lln, lna, lza])) | (show GD2 _ _ _ _ _ _ _ _ _ _ _ _ _ _; first | refine gd2_nil rfl ?_ | refine gd2_op (hk := ?_) | (refine gd2_nw (hk := ?_); intro u; try simp only [llc, lln, lna, lza]) | refine gd2_l (hk := ?_) | refine gd2_lp (hk := ?_) | (refine gd2_newp (hk := ?_); intro id) | refine gd2_st (hk := ?_) | (refine gd2_bsl rfl rfl ?_; intro u; try simp only [llc, lln, lna, lza]) | (refine gd2_a (hk := ?_); intro u; try simp only [llc, lln, lna, lza])) | (show GO _ _ _ _ _ (⟨none, none, _⟩ :: _) _; refine go_st (hk := ?_)) | (show GD _ _ _ _ _ _ _ (⟨none, none, _⟩ :: _) _; refine gd_st (hk := ?_)) | (show GO _ _ _ _ _ (⟨_, some _, _⟩ :: _) _; first | refine go_in (hk := ?_) | refine go_out (hk := ?_) | refine go_void (hk := ?_)) | (show GK _ _ _ _ (blockK _ _ _); refine gk_past rfl ?_) | (show GC _ _ _ _ _ (.cond _ _ _) _; first | refine gc_yes (h1 := ?_) | refine gc_no (h1 := ?_))))
  refine gc_cond rfl (fun h => ?_) (fun h => ?_)
  · have d1 := tdiv_in (a := -a) (g := (Int.gcd a b : Nat)) (B := 4611686018427387904) (by omega)
    have d2 := tdiv_in (a := -b) (g := (Int.gcd a b : Nat)) (B := 4611686018427387904) (by omega)
    rw [show b.sign = -1 from Int.sign_eq_neg_one_of_neg h] at e1
    rw [show max b (-b) = -b by omega] at e2
    rw [show (-1 : Int) * a = -a by omega] at e1
    rw [← tdiv_negneg hg] at d1 d2
    (repeat (first | refine gst (hk := ?_) | (with_reducible first | (refine gc_drw (h := ?_); intro _) | (refine gc_drw2 (h := ?_); intro _)) | (show GO _ _ _ _ _ (⟨some _, none, _⟩ :: _) _; first | refine go_op (hk := ?_) | (refine go_nw (hk := ?_); intro u; try simp only [llc, lln, lna, lza]) | (refine go_np (hk := ?_); intro id)) | (show GD _ _ _ _ _ _ _ (⟨some _, none, _⟩ :: _) _; first | refine gd_op (hk := ?_) | (refine gd_nw (hk := ?_); intro u; try simp only [llc, lln, lna, lza])) | (show GD2 _ _ _ _ _ _ _ _ _ _ _ _ _ _; first | refine gd2_nil rfl ?_ | refine gd2_op (hk := ?_) | (refine gd2_nw (hk := ?_); intro u; try simp only [llc, lln, lna, lza]) | refine gd2_l (hk := ?_) | refine gd2_lp (hk := ?_) | (refine gd2_newp (hk := ?_); intro id) | refine gd2_st (hk := ?_) | (refine gd2_bsl rfl rfl ?_; intro u; try simp only [llc, lln, lna, lza]) | (refine gd2_a (hk := ?_); intro u; try simp only [llc, lln, lna, lza])) | (show GO _ _ _ _ _ (⟨none, none, _⟩ :: _) _; refine go_st (hk := ?_)) | (show GD _ _ _ _ _ _ _ (⟨none, none, _⟩ :: _) _; refine gd_st (hk := ?_)) | (show GO _ _ _ _ _ (⟨_, some _, _⟩ :: _) _; first | refine go_in (hk := ?_) | refine go_out (hk := ?_) | refine go_void (hk := ?_)) | (show GK _ _ _ _ (blockK _ _ _); refine gk_past rfl ?_) | (show GC _ _ _ _ _ (.cond _ _ _) _; first | refine gc_yes (h1 := ?_) | refine gc_no (h1 := ?_))))
    refine gd_is rfl (stp_quo (a := a) (b := -((Int.gcd a b : Nat) : Int)) (by exact rfl) (by exact rfl) (by omega) (by omega)) ?_
    (repeat (first | refine gst (hk := ?_) | (with_reducible first | (refine gc_drw (h := ?_); intro _) | (refine gc_drw2 (h := ?_); intro _)) | (show GO _ _ _ _ _ (⟨some _, none, _⟩ :: _) _; first | refine go_op (hk := ?_) | (refine go_nw (hk := ?_); intro u; try simp only [llc, lln, lna, lza]) | (refine go_np (hk := ?_); intro id)) | (show GD _ _ _ _ _ _ _ (⟨some _, none, _⟩ :: _) _; first | refine gd_op (hk := ?_) | (refine gd_nw (hk := ?_); intro u; try simp only [llc, lln, lna, lza])) | (show GD2 _ _ _ _ _ _ _ _ _ _ _ _ _ _; first | refine gd2_nil rfl ?_ | refine gd2_op (hk := ?_) | (refine gd2_nw (hk := ?_); intro u; try simp only [llc, lln, lna, lza]) | refine gd2_l (hk := ?_) | refine gd2_lp (hk := ?_) | (refine gd2_newp (hk := ?_); intro id) | refine gd2_st (hk := ?_) | (refine gd2_bsl rfl rfl ?_; intro u; try simp only [llc, lln, lna, lza]) | (refine gd2_a (hk := ?_); intro u; try simp only [llc, lln, lna, lza])) | (show GO _ _ _ _ _ (⟨none, none, _⟩ :: _) _; refine go_st (hk := ?_)) | (show GD _ _ _ _ _ _ _ (⟨none, none, _⟩ :: _) _; refine gd_st (hk := ?_)) | (show GO _ _ _ _ _ (⟨_, some _, _⟩ :: _) _; first | refine go_in (hk := ?_) | refine go_out (hk := ?_) | refine go_void (hk := ?_)) | (show GK _ _ _ _ (blockK _ _ _); refine gk_past rfl ?_) | (show GC _ _ _ _ _ (.cond _ _ _) _; first | refine gc_yes (h1 := ?_) | refine gc_no (h1 := ?_))))
    refine gd_is rfl (stp_quo (a := b) (b := -((Int.gcd a b : Nat) : Int)) (by exact rfl) (by exact rfl) (by omega) (by omega)) ?_
    (repeat (first | refine gst (hk := ?_) | (with_reducible first | (refine gc_drw (h := ?_); intro _) | (refine gc_drw2 (h := ?_); intro _)) | (show GO _ _ _ _ _ (⟨some _, none, _⟩ :: _) _; first | refine go_op (hk := ?_) | (refine go_nw (hk := ?_); intro u; try simp only [llc, lln, lna, lza]) | (refine go_np (hk := ?_); intro id)) | (show GD _ _ _ _ _ _ _ (⟨some _, none, _⟩ :: _) _; first | refine gd_op (hk := ?_) | (refine gd_nw (hk := ?_); intro u; try simp only [llc, lln, lna, lza])) | (show GD2 _ _ _ _ _ _ _ _ _ _ _ _ _ _; first | refine gd2_nil rfl ?_ | refine gd2_op (hk := ?_) | (refine gd2_nw (hk := ?_); intro u; try simp only [llc, lln, lna, lza]) | refine gd2_l (hk := ?_) | refine gd2_lp (hk := ?_) | (refine gd2_newp (hk := ?_); intro id) | refine gd2_st (hk := ?_) | (refine gd2_bsl rfl rfl ?_; intro u; try simp only [llc, lln, lna, lza]) | (refine gd2_a (hk := ?_); intro u; try simp only [llc, lln, lna, lza])) | (show GO _ _ _ _ _ (⟨none, none, _⟩ :: _) _; refine go_st (hk := ?_)) | (show GD _ _ _ _ _ _ _ (⟨none, none, _⟩ :: _) _; refine gd_st (hk := ?_)) | (show GO _ _ _ _ _ (⟨_, some _, _⟩ :: _) _; first | refine go_in (hk := ?_) | refine go_out (hk := ?_) | refine go_void (hk := ?_)) | (show GK _ _ _ _ (blockK _ _ _); refine gk_past rfl ?_) | (show GC _ _ _ _ _ (.cond _ _ _) _; first | refine gc_yes (h1 := ?_) | refine gc_no (h1 := ?_))))
    exact gk_retc rfl (by exact Sel.auto) rfl rfl fun H' hH => ⟨by rw [tdiv_negneg hg, tdiv_negneg hg, frV, e1, e2, Int.tdiv_eq_ediv_of_nonneg (show 0 ≤ -b by omega)]; rfl, hH.leE⟩
  · have d1 := tdiv_in (a := a) (g := (Int.gcd a b : Nat)) (B := 4611686018427387904) (by omega)
    have d2 := tdiv_in (a := b) (g := (Int.gcd a b : Nat)) (B := 4611686018427387904) (by omega)
    rw [show b.sign = 1 from Int.sign_eq_one_of_pos (by omega)] at e1
    rw [show max b (-b) = b by omega] at e2
    rw [show (1 : Int) * a = a by omega] at e1
    (repeat (first | refine gst (hk := ?_) | (with_reducible first | (refine gc_drw (h := ?_); intro _) | (refine gc_drw2 (h := ?_); intro _)) | (show GO _ _ _ _ _ (⟨some _, none, _⟩ :: _) _; first | refine go_op (hk := ?_) | (refine go_nw (hk := ?_); intro u; try simp only [llc, lln, lna, lza]) | (refine go_np (hk := ?_); intro id)) | (show GD _ _ _ _ _ _ _ (⟨some _, none, _⟩ :: _) _; first | refine gd_op (hk := ?_) | (refine gd_nw (hk := ?_); intro u; try simp only [llc, lln, lna, lza])) | (show GD2 _ _ _ _ _ _ _ _ _ _ _ _ _ _; first | refine gd2_nil rfl ?_ | refine gd2_op (hk := ?_) | (refine gd2_nw (hk := ?_); intro u; try simp only [llc, lln, lna, lza]) | refine gd2_l (hk := ?_) | refine gd2_lp (hk := ?_) | (refine gd2_newp (hk := ?_); intro id) | refine gd2_st (hk := ?_) | (refine gd2_bsl rfl rfl ?_; intro u; try simp only [llc, lln, lna, lza]) | (refine gd2_a (hk := ?_); intro u; try simp only [llc, lln, lna, lza])) | (show GO _ _ _ _ _ (⟨none, none, _⟩ :: _) _; refine go_st (hk := ?_)) | (show GD _ _ _ _ _ _ _ (⟨none, none, _⟩ :: _) _; refine gd_st (hk := ?_)) | (show GO _ _ _ _ _ (⟨_, some _, _⟩ :: _) _; first | refine go_in (hk := ?_) | refine go_out (hk := ?_) | refine go_void (hk := ?_)) | (show GK _ _ _ _ (blockK _ _ _); refine gk_past rfl ?_) | (show GC _ _ _ _ _ (.cond _ _ _) _; first | refine gc_yes (h1 := ?_) | refine gc_no (h1 := ?_))))
    refine gd_is rfl (stp_quo (a := a) (b := ((Int.gcd a b : Nat) : Int)) (by exact rfl) (by exact rfl) (by omega) (by omega)) ?_
    (repeat (first | refine gst (hk := ?_) | (with_reducible first | (refine gc_drw (h := ?_); intro _) | (refine gc_drw2 (h := ?_); intro _)) | (show GO _ _ _ _ _ (⟨some _, none, _⟩ :: _) _; first | refine go_op (hk := ?_) | (refine go_nw (hk := ?_); intro u; try simp only [llc, lln, lna, lza]) | (refine go_np (hk := ?_); intro id)) | (show GD _ _ _ _ _ _ _ (⟨some _, none, _⟩ :: _) _; first | refine gd_op (hk := ?_) | (refine gd_nw (hk := ?_); intro u; try simp only [llc, lln, lna, lza])) | (show GD2 _ _ _ _ _ _ _ _ _ _ _ _ _ _; first | refine gd2_nil rfl ?_ | refine gd2_op (hk := ?_) | (refine gd2_nw (hk := ?_); intro u; try simp only [llc, lln, lna, lza]) | refine gd2_l (hk := ?_) | refine gd2_lp (hk := ?_) | (refine gd2_newp (hk := ?_); intro id) | refine gd2_st (hk := ?_) | (refine gd2_bsl rfl rfl ?_; intro u; try simp only [llc, lln, lna, lza]) | (refine gd2_a (hk := ?_); intro u; try simp only [llc, lln, lna, lza])) | (show GO _ _ _ _ _ (⟨none, none, _⟩ :: _) _; refine go_st (hk := ?_)) | (show GD _ _ _ _ _ _ _ (⟨none, none, _⟩ :: _) _; refine gd_st (hk := ?_)) | (show GO _ _ _ _ _ (⟨_, some _, _⟩ :: _) _; first | refine go_in (hk := ?_) | refine go_out (hk := ?_) | refine go_void (hk := ?_)) | (show GK _ _ _ _ (blockK _ _ _); refine gk_past rfl ?_) | (show GC _ _ _ _ _ (.cond _ _ _) _; first | refine gc_yes (h1 := ?_) | refine gc_no (h1 := ?_))))
    exact gk_retc rfl (by exact Sel.auto) rfl rfl fun H' hH => ⟨by rw [frV, e1, e2]; rfl, hH.leE⟩

theorem implWhole_ok {H : Heap} {n : Int} : ACalls Try.prog fn_impl_whole [.int .i64 n] H fun r H' => r = frV (n : Rat) ∧ H' = H := by
  refine ACalls.val ?_ rfl
  refine code_impl_whole.go [] trivial (by simp) ?_
  unfold mc_impl_whole
  (repeat (first | refine gst (hk := ?_) | (show GO _ _ _ _ _ (⟨some _, none, _⟩ :: _) _; first | refine go_op (hk := ?_) | (refine go_nw (hk := ?_); intro u; try simp only [llc, lln, lna, lza]) | (refine go_np (hk := ?_); intro id)) | (show GO _ _ _ _ _ (⟨none, none, _⟩ :: _) _; refine go_st (hk := ?_)) | (show GO _ _ _ _ _ (⟨_, some _, _⟩ :: _) _; first | refine go_in (hk := ?_) | refine go_out (hk := ?_) | refine go_void (hk := ?_)) | (show GK _ _ _ _ (blockK _ _ _); refine gk_past rfl ?_) | (show GC _ _ _ _ _ (.cond _ _ _) _; first | refine gc_yes (h1 := ?_) | refine gc_no (h1 := ?_))))
  exact gk_retc rfl (by exact Sel.auto) rfl rfl fun H' hH => ⟨rfl, hH.leE⟩

theorem implPlus_ok {H : Heap} {p q : Rat} (hf : FitA p q) :
    ACalls Try.prog fn_impl_Frac_plus [frV p, frV q] H fun r H' => r = frV (p + q) ∧ H' = H := by
  refine ACalls.val ?_ rfl
  obtain ⟨h1, h2, h3⟩ := hf
  have h4 := dd_pos p q
  unfold frV
  refine code_impl_Frac_plus.go [] trivial (by simp) ?_
  unfold mc_impl_Frac_plus
  (repeat (first | refine gst (hk := ?_) | (show GO _ _ _ _ _ (⟨some _, none, _⟩ :: _) _; first | refine go_op (hk := ?_) | (refine go_nw (hk := ?_); intro u; try simp only [llc, lln, lna, lza]) | (refine go_np (hk := ?_); intro id)) | (show GO _ _ _ _ _ (⟨none, none, _⟩ :: _) _; refine go_st (hk := ?_)) | (show GO _ _ _ _ _ (⟨_, some _, _⟩ :: _) _; first | refine go_in (hk := ?_) | refine go_out (hk := ?_) | refine go_void (hk := ?_)) | (show GK _ _ _ _ (blockK _ _ _); refine gk_past rfl ?_) | (show GC _ _ _ _ _ (.cond _ _ _) _; first | refine gc_yes (h1 := ?_) | refine gc_no (h1 := ?_))))
  refine go_callp rfl code_impl_lowest.callable (fun H hH => lowest_ok (by omega) (by omega) (by omega)) ?_
  rw [add_nd]
  (repeat (first | refine gst (hk := ?_) | (show GO _ _ _ _ _ (⟨some _, none, _⟩ :: _) _; first | refine go_op (hk := ?_) | (refine go_nw (hk := ?_); intro u; try simp only [llc, lln, lna, lza]) | (refine go_np (hk := ?_); intro id)) | (show GO _ _ _ _ _ (⟨none, none, _⟩ :: _) _; refine go_st (hk := ?_)) | (show GO _ _ _ _ _ (⟨_, some _, _⟩ :: _) _; first | refine go_in (hk := ?_) | refine go_out (hk := ?_) | refine go_void (hk := ?_)) | (show GK _ _ _ _ (blockK _ _ _); refine gk_past rfl ?_) | (show GC _ _ _ _ _ (.cond _ _ _) _; first | refine gc_yes (h1 := ?_) | refine gc_no (h1 := ?_))))
  exact gk_retc rfl (by exact Sel.auto) rfl rfl fun H' hH => ⟨rfl, hH.leE⟩

/-- which fraction is less: -1, 0, 1 -/
def cmR (p q : Rat) : Int := sgn (p.num * (q.den : Int) - q.num * (p.den : Int))

theorem cmR_neg {p q : Rat} : cmR p q < 0 ↔ p < q := by
  rw [Rat.lt_iff]; unfold cmR sgn
  split
  · omega
  · split <;> omega

theorem implCompare_ok {H : Heap} {p q : Rat} (hf : FitA p q) :
    ACalls Try.prog fn_impl_Frac_compare [frV p, frV q] H fun r H' => r = .int .i64 (cmR p q) ∧ H' = H := by
  refine ACalls.val ?_ rfl
  obtain ⟨h1, h2, h3⟩ := hf
  unfold frV
  refine code_impl_Frac_compare.go [] trivial (by simp) ?_
  unfold mc_impl_Frac_compare
  (repeat (first | refine gst (hk := ?_) | (refine gq_call rfl (fun _ => qtCmp_is) ?_) | (show GO _ _ _ _ _ (⟨some _, none, _⟩ :: _) _; first | refine go_op (hk := ?_) | (refine go_nw (hk := ?_); intro u; try simp only [llc, lln, lna, lza]) | (refine go_np (hk := ?_); intro id)) | (show GO _ _ _ _ _ (⟨none, none, _⟩ :: _) _; refine go_st (hk := ?_)) | (show GO _ _ _ _ _ (⟨_, some _, _⟩ :: _) _; first | refine go_in (hk := ?_) | refine go_out (hk := ?_) | refine go_void (hk := ?_)) | (show GK _ _ _ _ (blockK _ _ _); refine gk_past rfl ?_) | (show GC _ _ _ _ _ (.cond _ _ _) _; first | refine gc_yes (h1 := ?_) | refine gc_no (h1 := ?_))))
  refine go_callp rfl code_cmp_Compare_int.callable (fun H hH => compare_ok) ?_
  (repeat (first | refine gst (hk := ?_) | (refine gq_call rfl (fun _ => qtCmp_is) ?_) | (show GO _ _ _ _ _ (⟨some _, none, _⟩ :: _) _; first | refine go_op (hk := ?_) | (refine go_nw (hk := ?_); intro u; try simp only [llc, lln, lna, lza]) | (refine go_np (hk := ?_); intro id)) | (show GO _ _ _ _ _ (⟨none, none, _⟩ :: _) _; refine go_st (hk := ?_)) | (show GO _ _ _ _ _ (⟨_, some _, _⟩ :: _) _; first | refine go_in (hk := ?_) | refine go_out (hk := ?_) | refine go_void (hk := ?_)) | (show GK _ _ _ _ (blockK _ _ _); refine gk_past rfl ?_) | (show GC _ _ _ _ _ (.cond _ _ _) _; first | refine gc_yes (h1 := ?_) | refine gc_no (h1 := ?_))))
  exact gk_ret rfl fun H' hH => ⟨rfl, hH.leE⟩

def cellsK {α : Type} (c : α → List AV) : List α → List AV
  | [] => []
  | q :: L => c q ++ cellsK c L

structure Cels {α : Type} (c : α → List AV) (k : Nat) : Prop where
  len : ∀ a, (c a).length = k
  one : ∀ a, (c a).all AV.one = true

theorem ck_len {α : Type} {c : α → List AV} {k : Nat} (h : Cels c k) : ∀ L : List α, (cellsK c L).length = L.length * k
  | [] => by simp [cellsK]
  | q :: L => by rw [cellsK, List.length_append, ck_len h L, h.len, List.length_cons, Nat.add_mul]; omega

theorem ck_drop {α : Type} {c : α → List AV} {k : Nat} (h : Cels c k) : ∀ (L : List α) (i : Nat), (cellsK c L).drop (i * k) = cellsK c (L.drop i)
  | [], i => by simp [cellsK]
  | q :: L, 0 => by simp
  | q :: L, i + 1 => by
    rw [List.drop_succ_cons, cellsK, show (i + 1) * k = (c q).length + i * k by rw [h.len, Nat.add_mul]; omega, List.drop_length_add_append, ck_drop h L i]

def nthA {α : Type} (d : α) (L : List α) (i : Nat) : α := L.getD i d

theorem nthA_of {α : Type} {d : α} {L : List α} {i : Nat} (h : i < L.length) : nthA d L i = L[i] := by
  unfold nthA
  rw [List.getD_eq_getElem?_getD, List.getElem?_eq_getElem h]; rfl

/-- a part of a slice of one's own -/
def subW : AV → Nat → Nat → AV
  | .slice id off _ cap es, l, h => .slice id (off + l * es) (h - l) (cap.map (· - l)) es
  | v, _, _ => v

theorem stp_slw {A : Heap} {X : List Nat} {E : List (Nat × AV)} {S S0 : Sig} {x z : MX} {v : AV} {k n l : Nat} {cs : List AV} (hx : evE E x = some v) (hz : evE E z = some (.int .i64 (l : Int))) (hs : Sel S ⟨.rw, v, k, n, cs⟩ S0) (hl : l ≤ n) : Stp A X E S (.sl x (some z) none none k) (Is (subW v l n) S) :=
  stp_pure fun τ H m nid hE hS => by
    have hcc := (hS.sel hs).ch ⟨.rw, v, k, n, cs⟩ (by simp)
    obtain ⟨h1, h2, h3⟩ := hcc
    simp only at h1 h2 h3
    have e1 : bnd n (some (AV.int .i64 (l : Int))) 0 = some l := by
      simp only [bnd]; rw [if_pos (by omega)]; simp
    rcases h3 with ⟨rfl, h3⟩ | ⟨id, rfl, h4, h5⟩
    · subst h3
      simp only [mstep, ev_of hE hx, Option.map_some, Option.map_none, ev_of hE hz, msl, AV.len]
      have e0 : bnd 0 (none : Option AV) 0 = some 0 := rfl
      simp only [e0, e1, subW]; rfl
    · have e0 : bnd n (none : Option AV) n = some n := rfl
      simp only [mstep, ev_of hE hx, Option.map_some, Option.map_none, ev_of hE hz, msl, AV.len, e0, e1, subW]
      simp

def PtsM (xs ys : List Int) (m : Nat) : Prop := (xs.length = ys.length ∧ 1 ≤ xs.length ∧ xs.length ≤ m) ∧ PtsT xs ys xs.length

noncomputable instance (xs ys : List Int) (m : Nat) : Decidable (PtsM xs ys m) := Classical.propDecidable _

theorem Cloud.m {xs ys : List Int} (h : Cloud xs ys) : PtsM xs ys 7 := by
  obtain ⟨⟨h1, h2, h3⟩, i, h4, h5, _⟩ := h
  exact ⟨⟨h2, by omega, h3⟩, h1⟩

noncomputable def dPlusI := fam2 FitA fun p q => frV (p + q)

theorem dPlusI_ok (H : Heap) : FamOk Try.prog H fn_impl_Frac_plus dPlusI := fam2_ok code_impl_Frac_plus.callable (fun h => implPlus_ok h) H

theorem leastF_ok {H : Heap} {w : AV} {f : Nat → Rat} {L : List Rat} (hw : Vals H w 2 L.length (frs L)) (hL : ∀ i, i < L.length → nthR L i = f (i + 1)) (hl : L.length ≤ 1000000) (hf : ∀ i j, i ≤ L.length → j ≤ L.length → FitA (f i) (f j)) :
    ACalls Try.prog fn_impl_least_impl_Frac [frV (f 0), w] H fun r H' => r = frV (loR f L.length) ∧ H' = H := by
  refine ACalls.val ?_ rfl
  refine code_impl_least_impl_Frac.go [roF w L.length L] ⟨⟨rfl, hw⟩, trivial⟩ (by simp) ?_
  unfold mc_impl_least_impl_Frac
  (repeat (first | refine gst (hk := ?_) | (show GO _ _ _ _ _ (⟨some _, none, .inv _ _ _⟩ :: _) _; refine go_inv rfl rfl ?_) | (show GQ _ _ _ _ _ _ _ (⟨some _, none, .inv _ _ _⟩ :: _) _; refine gq_inv rfl rfl ?_) | (show GR _ _ _ _ _ _ (⟨some _, none, .inv _ _ _⟩ :: _) _; refine gr_inv rfl rfl ?_) | (show GO _ _ _ _ _ (⟨some _, none, _⟩ :: _) _; first | refine go_op (hk := ?_) | (refine go_nw (hk := ?_); intro u; try simp only [llc, lln, lna, lza]) | (refine go_np (hk := ?_); intro id)) | (show GO _ _ _ _ _ (⟨none, none, _⟩ :: _) _; refine go_st (hk := ?_)) | (show GO _ _ _ _ _ (⟨_, some _, _⟩ :: _) _; first | refine go_in (hk := ?_) | refine go_out (hk := ?_) | refine go_void (hk := ?_)) | (show GK _ _ _ _ (blockK _ _ _); refine gk_past rfl ?_) | (show GC _ _ _ _ _ (.cond _ _ _) _; first | refine gc_yes (h1 := ?_) | refine gc_no (h1 := ?_))))
  rename_i i2
  revert id; intro i4
  refine gc_up L.length (fun i => [(2, .ptr i2 0), (4, .ptr i4 0), (7, w), (8, .int .i64 (L.length : Int)), (9, .int .i64 (i : Int))]) (fun i => [celF i2 (loR f i), cel0 i4, roF w L.length L]) (hb := ?_)
  intro i hi I ν m hk
  (repeat (first | refine gst (hk := ?_) | (show GO _ _ _ _ _ (⟨some _, none, .inv _ _ _⟩ :: _) _; refine go_inv rfl rfl ?_) | (show GQ _ _ _ _ _ _ _ (⟨some _, none, .inv _ _ _⟩ :: _) _; refine gq_inv rfl rfl ?_) | (show GR _ _ _ _ _ _ (⟨some _, none, .inv _ _ _⟩ :: _) _; refine gr_inv rfl rfl ?_) | (show GO _ _ _ _ _ (⟨some _, none, _⟩ :: _) _; first | refine go_op (hk := ?_) | (refine go_nw (hk := ?_); intro u; try simp only [llc, lln, lna, lza]) | (refine go_np (hk := ?_); intro id)) | (show GO _ _ _ _ _ (⟨none, none, _⟩ :: _) _; refine go_st (hk := ?_)) | (show GO _ _ _ _ _ (⟨_, some _, _⟩ :: _) _; first | refine go_in (hk := ?_) | refine go_out (hk := ?_) | refine go_void (hk := ?_)) | (show GK _ _ _ _ (blockK _ _ _); refine gk_past rfl ?_) | (show GC _ _ _ _ _ (.cond _ _ _) _; first | refine gc_yes (h1 := ?_) | refine gc_no (h1 := ?_))))
  refine gc_cond rfl (fun h => ?_) (fun h => ?_)
  · have hk := hk (by omega)
    rw [loR] at hk
    have hfit : FitA (f (i + 1)) (loR f i) := by
      obtain ⟨_, j, hj, e⟩ := loR_is f i
      rw [e]; exact hf _ _ (by omega) (by omega)
    (repeat (first | refine gst (hk := ?_) | (show GO _ _ _ _ _ (⟨some _, none, .inv _ _ _⟩ :: _) _; refine go_inv rfl rfl ?_) | (show GQ _ _ _ _ _ _ _ (⟨some _, none, .inv _ _ _⟩ :: _) _; refine gq_inv rfl rfl ?_) | (show GR _ _ _ _ _ _ (⟨some _, none, .inv _ _ _⟩ :: _) _; refine gr_inv rfl rfl ?_) | (show GO _ _ _ _ _ (⟨some _, none, _⟩ :: _) _; first | refine go_op (hk := ?_) | (refine go_nw (hk := ?_); intro u; try simp only [llc, lln, lna, lza]) | (refine go_np (hk := ?_); intro id)) | (show GO _ _ _ _ _ (⟨none, none, _⟩ :: _) _; refine go_st (hk := ?_)) | (show GO _ _ _ _ _ (⟨_, some _, _⟩ :: _) _; first | refine go_in (hk := ?_) | refine go_out (hk := ?_) | refine go_void (hk := ?_)) | (show GK _ _ _ _ (blockK _ _ _); refine gk_past rfl ?_) | (show GC _ _ _ _ _ (.cond _ _ _) _; first | refine gc_yes (h1 := ?_) | refine gc_no (h1 := ?_))))
    refine go_is rfl (stp_ldF (i := i) rfl (by exact Has.auto) rfl (by omega)) ?_
    rw [hL i (by omega)]
    (repeat (first | refine gst (hk := ?_) | (show GO _ _ _ _ _ (⟨some _, none, .inv _ _ _⟩ :: _) _; refine go_inv rfl rfl ?_) | (show GQ _ _ _ _ _ _ _ (⟨some _, none, .inv _ _ _⟩ :: _) _; refine gq_inv rfl rfl ?_) | (show GR _ _ _ _ _ _ (⟨some _, none, .inv _ _ _⟩ :: _) _; refine gr_inv rfl rfl ?_) | (show GO _ _ _ _ _ (⟨some _, none, _⟩ :: _) _; first | refine go_op (hk := ?_) | (refine go_nw (hk := ?_); intro u; try simp only [llc, lln, lna, lza]) | (refine go_np (hk := ?_); intro id)) | (show GO _ _ _ _ _ (⟨none, none, _⟩ :: _) _; refine go_st (hk := ?_)) | (show GO _ _ _ _ _ (⟨_, some _, _⟩ :: _) _; first | refine go_in (hk := ?_) | refine go_out (hk := ?_) | refine go_void (hk := ?_)) | (show GK _ _ _ _ (blockK _ _ _); refine gk_past rfl ?_) | (show GC _ _ _ _ _ (.cond _ _ _) _; first | refine gc_yes (h1 := ?_) | refine gc_no (h1 := ?_))))
    refine go_callp rfl code_impl_Frac_compare.callable (fun H hH => implCompare_ok (p := f (i + 1)) (q := loR f i) hfit) ?_
    (repeat (first | refine gst (hk := ?_) | (show GO _ _ _ _ _ (⟨some _, none, .inv _ _ _⟩ :: _) _; refine go_inv rfl rfl ?_) | (show GQ _ _ _ _ _ _ _ (⟨some _, none, .inv _ _ _⟩ :: _) _; refine gq_inv rfl rfl ?_) | (show GR _ _ _ _ _ _ (⟨some _, none, .inv _ _ _⟩ :: _) _; refine gr_inv rfl rfl ?_) | (show GO _ _ _ _ _ (⟨some _, none, _⟩ :: _) _; first | refine go_op (hk := ?_) | (refine go_nw (hk := ?_); intro u; try simp only [llc, lln, lna, lza]) | (refine go_np (hk := ?_); intro id)) | (show GO _ _ _ _ _ (⟨none, none, _⟩ :: _) _; refine go_st (hk := ?_)) | (show GO _ _ _ _ _ (⟨_, some _, _⟩ :: _) _; first | refine go_in (hk := ?_) | refine go_out (hk := ?_) | refine go_void (hk := ?_)) | (show GK _ _ _ _ (blockK _ _ _); refine gk_past rfl ?_) | (show GC _ _ _ _ _ (.cond _ _ _) _; first | refine gc_yes (h1 := ?_) | refine gc_no (h1 := ?_))))
    refine gc_cond rfl (fun h1 => ?_) (fun h1 => ?_)
    · rw [if_pos (cmR_neg.1 h1)] at hk
      (repeat (first | refine gst (hk := ?_) | (show GO _ _ _ _ _ (⟨some _, none, .inv _ _ _⟩ :: _) _; refine go_inv rfl rfl ?_) | (show GQ _ _ _ _ _ _ _ (⟨some _, none, .inv _ _ _⟩ :: _) _; refine gq_inv rfl rfl ?_) | (show GR _ _ _ _ _ _ (⟨some _, none, .inv _ _ _⟩ :: _) _; refine gr_inv rfl rfl ?_) | (show GO _ _ _ _ _ (⟨some _, none, _⟩ :: _) _; first | refine go_op (hk := ?_) | (refine go_nw (hk := ?_); intro u; try simp only [llc, lln, lna, lza]) | (refine go_np (hk := ?_); intro id)) | (show GO _ _ _ _ _ (⟨none, none, _⟩ :: _) _; refine go_st (hk := ?_)) | (show GO _ _ _ _ _ (⟨_, some _, _⟩ :: _) _; first | refine go_in (hk := ?_) | refine go_out (hk := ?_) | refine go_void (hk := ?_)) | (show GK _ _ _ _ (blockK _ _ _); refine gk_past rfl ?_) | (show GC _ _ _ _ _ (.cond _ _ _) _; first | refine gc_yes (h1 := ?_) | refine gc_no (h1 := ?_))))
      exact gk_next hk
    · rw [if_neg (fun h2 => h1 (cmR_neg.2 h2))] at hk
      (repeat (first | refine gst (hk := ?_) | (show GO _ _ _ _ _ (⟨some _, none, .inv _ _ _⟩ :: _) _; refine go_inv rfl rfl ?_) | (show GQ _ _ _ _ _ _ _ (⟨some _, none, .inv _ _ _⟩ :: _) _; refine gq_inv rfl rfl ?_) | (show GR _ _ _ _ _ _ (⟨some _, none, .inv _ _ _⟩ :: _) _; refine gr_inv rfl rfl ?_) | (show GO _ _ _ _ _ (⟨some _, none, _⟩ :: _) _; first | refine go_op (hk := ?_) | (refine go_nw (hk := ?_); intro u; try simp only [llc, lln, lna, lza]) | (refine go_np (hk := ?_); intro id)) | (show GO _ _ _ _ _ (⟨none, none, _⟩ :: _) _; refine go_st (hk := ?_)) | (show GO _ _ _ _ _ (⟨_, some _, _⟩ :: _) _; first | refine go_in (hk := ?_) | refine go_out (hk := ?_) | refine go_void (hk := ?_)) | (show GK _ _ _ _ (blockK _ _ _); refine gk_past rfl ?_) | (show GC _ _ _ _ _ (.cond _ _ _) _; first | refine gc_yes (h1 := ?_) | refine gc_no (h1 := ?_))))
      exact gk_next hk
  · have : i = L.length := by omega
    subst this
    (repeat (first | refine gst (hk := ?_) | (show GO _ _ _ _ _ (⟨some _, none, .inv _ _ _⟩ :: _) _; refine go_inv rfl rfl ?_) | (show GQ _ _ _ _ _ _ _ (⟨some _, none, .inv _ _ _⟩ :: _) _; refine gq_inv rfl rfl ?_) | (show GR _ _ _ _ _ _ (⟨some _, none, .inv _ _ _⟩ :: _) _; refine gr_inv rfl rfl ?_) | (show GO _ _ _ _ _ (⟨some _, none, _⟩ :: _) _; first | refine go_op (hk := ?_) | (refine go_nw (hk := ?_); intro u; try simp only [llc, lln, lna, lza]) | (refine go_np (hk := ?_); intro id)) | (show GO _ _ _ _ _ (⟨none, none, _⟩ :: _) _; refine go_st (hk := ?_)) | (show GO _ _ _ _ _ (⟨_, some _, _⟩ :: _) _; first | refine go_in (hk := ?_) | refine go_out (hk := ?_) | refine go_void (hk := ?_)) | (show GK _ _ _ _ (blockK _ _ _); refine gk_past rfl ?_) | (show GC _ _ _ _ _ (.cond _ _ _) _; first | refine gc_yes (h1 := ?_) | refine gc_no (h1 := ?_))))
    exact gk_retc rfl (by exact Sel.auto) rfl rfl fun H' hH => ⟨rfl, hH.leE⟩

theorem go_yieldE {P : Program} {A : Heap} {X : List Nat} {E : List (Nat × AV)} {S : Sig} {K : St → Prop} {r : List MI} {d : Nat} {γ : Type} {id : Nat} {fv : MX} {args : List MX} {xs : List AV} {S2 : γ → Sig} (hv : evE E fv = some (.yld id)) (ha : evsE E args = some xs)
    (h : ∀ H, SOk A X S H.size H → AYield P id xs H fun t H' => t = true ∧ ∃ g, SOk A X (S2 g) H'.size H') (hk : ∀ g, GO P A X ((d, .bool true) :: E) (S2 g) r K) : GO P A X E S (⟨some d, none, .callv fv args⟩ :: r) K := by
  refine ⟨fun s hf => ?_⟩
  rw [mops_cons]
  simp only [mone, mexec, ev_of hf.env hv]
  have := h s.H hf.ok
  rw [← evs_of hf.env ha] at this
  refine ⟨_, this, ?_⟩
  rintro b H' ⟨rfl, g, hS⟩
  exact (hk g).g _ ⟨look_cons hf.env d _, hS⟩

theorem gc_rfuncE {P : Program} {A : Heap} {X : List Nat} {E : List (Nat × AV)} {S : Sig} {Q : Exit → St → Prop} {ι γ : Type} {g : MX} {ps : List Nat} {a b : MC} {f : FuncId} {caps : List AV} (T : ι → γ → Sig) (Rd : ι → ι → List AV → Prop) (i0 iN : ι) (g0 : γ)
    (hg : evE E g = some (.func f caps)) (hc : Callable P f) (hS : Sub S (T i0 g0))
    (hit : ∀ (A' : Heap) (id : Nat) (H : Heap), (∀ i j xs, Rd i j xs → ∀ (F : Sig) (z : γ) H', SOk A' X (T i z ++ F) H'.size H' → AYield P id xs H' fun t H'' => t = true ∧ ∃ z', SOk A' X (T j z' ++ F) H''.size H'') → SOk A' X (T i0 g0) H.size H → ACalls P f (.yld id :: caps) H fun _ H' => ∃ z, SOk A' X (T iN z) H'.size H')
    (hb : ∀ i j xs, Rd i j xs → xs.length = ps.length ∧ ∀ (F : Sig) (z : γ) (ob1 ob2 : Nat → Option OB) (Q1 Q2 : Exit → St → Prop), (∀ E' S', GC P (A.obs ob2) X E' S' b Q2 → GK (A.obs ob1) X E' S' (Q1 .normal)) → (∀ E' z', GK (A.obs ob2) X E' (T j z' ++ F) (Q2 .normal)) → GC P (A.obs ob1) X (setE E ps xs) (T i z ++ F) a Q1)
    (hk : ∀ z, GK A X E (T iN z) (Q .normal)) : GC P A X E S (.rfunc g ps a b) Q := by
  refine ⟨fun s hf => ?_⟩
  simp only [mwp, mrfunc, ev_of hf.env hg]
  refine ⟨hc, fun o ho hnone hround => ?_⟩
  obtain ⟨id, hid⟩ : ∃ id, id = s.H.size := ⟨_, rfl⟩
  rw [← hid] at hround hnone ⊢
  obtain ⟨ob1, hob1⟩ : ∃ ob1 : Nat → Option OB, ob1 = fun i => if i = id then some (lst o .ready none) else A.ob i := ⟨_, rfl⟩
  obtain ⟨ob2, hob2⟩ : ∃ ob2 : Nat → Option OB, ob2 = fun i => if i = id then some (lst o .busy none) else A.ob i := ⟨_, rfl⟩
  have e1 : ob1 id = some (lst o .ready none) := by rw [hob1]; simp
  have e2 : ob2 id = some (lst o .busy none) := by rw [hob2]; simp
  have e12 : (fun i => if i = id then some (lst o .busy none) else ob1 i) = ob2 := by
    rw [hob1, hob2]; funext i; by_cases h : i = id <;> simp [h]
  have e21 : (fun i => if i = id then some (lst o .ready none) else ob2 i) = ob1 := by
    rw [hob1, hob2]; funext i; by_cases h : i = id <;> simp [h]
  refine ⟨fun _ H' => ∃ z, SOk (A.obs ob1) X (T iN z) H'.size H', hit (A.obs ob1) id _ ?_ ?_, ?_⟩
  · intro i j xs hY F z H' hH'
    obtain ⟨hlen, hbody⟩ := hb i j xs hY
    have hHob : H'.ob = ob1 := hH'.le.ob
    refine hround xs H' _ hlen (by rw [hHob]; exact e1) ?_
    refine (hbody F z ob1 ob2 _ (roundK id o fun t H'' => t = true ∧ ∃ z', SOk (A.obs ob1) X (T j z' ++ F) H''.size H'') ?_ ?_).g ⟨setp s.τ ps xs, H'⟩ ⟨setE_ok ps xs E s.τ hf.env, hH'⟩
    · intro E' S' hgc
      refine ⟨fun s' hf' => ?_⟩
      have h1 : s'.H.ob = ob1 := hf'.ok.le.ob
      refine ⟨by rw [h1]; exact e1, hgc.g _ ⟨hf'.env, ?_⟩⟩
      have h2 := hf'.ok.obs ob2 (Nat.le_refl _) hf'.ok.mh
      have h3 : s'.H.seto id (some (lst o .busy none)) = ⟨s'.H.size, s'.H.get, ob2⟩ := by simp only [Heap.seto, h1, e12]
      rw [h3]; exact h2
    · intro E' z'
      refine ⟨fun s' hf' => ?_⟩
      have h1 : s'.H.ob = ob2 := hf'.ok.le.ob
      refine ⟨by rw [h1]; exact e2, rfl, z', ?_⟩
      have h2 := hf'.ok.obs ob1 (Nat.le_refl _) hf'.ok.mh
      have h3 : s'.H.seto id (some (lst o .ready none)) = ⟨s'.H.size, s'.H.get, ob1⟩ := by simp only [Heap.seto, h1, e21]
      rw [h3]; exact h2
  · have h0 := (hf.ok.sub hS).obs ob1 (Nat.le_succ _) (Nat.le_refl _)
    have h3 : s.H.newo (lst o .ready none) = ⟨s.H.size + 1, s.H.get, ob1⟩ := by
      simp only [Heap.newo, hob1, hf.ok.le.ob, hid]
    rw [h3]; exact h0
  · rintro r' H' ⟨z, hH'⟩
    have h1 : H'.ob = ob1 := hH'.le.ob
    refine ⟨.ready, none, by rw [h1]; exact e1, by simp, ?_⟩
    refine (hk z).g _ ⟨hf.env, ?_⟩
    have h2 := hH'.obs A.ob (Nat.le_refl _) hH'.mh
    have h3 : H'.seto id none = ⟨H'.size, H'.get, A.ob⟩ := by
      have hAob : A.ob id = none := by rw [← hf.ok.le.ob]; exact hnone
      simp only [Heap.seto, h1, hob1]
      congr 1
      funext i; by_cases h : i = id
      · subst h; simp [hAob]
      · simp [h]
    rw [h3]; exact h2
/- side by side: all two of the points with different xs -/

abbrev bx1 (i : Nat) (w : AV) : Ch := ⟨.cell, .ptr i 0, 1, 1, [w]⟩

theorem go_nilK {P : Program} {A : Heap} {X : List Nat} {E : List (Nat × AV)} {S : Sig} {l : List MI} {K : St → Prop} (es : Nat) (h : GO P A X E (⟨.rw, .nilSlice, es, 0, []⟩ :: S) l K) : GO P A X E S l K := ⟨fun s hf => h.g s ⟨hf.env, hf.ok.nil es⟩⟩

theorem gc_nilK {P : Program} {A : Heap} {X : List Nat} {E : List (Nat × AV)} {S : Sig} {c : MC} {Q : Exit → St → Prop} (es : Nat) (h : GC P A X E (⟨.rw, .nilSlice, es, 0, []⟩ :: S) c Q) : GC P A X E S c Q := ⟨fun s hf => h.g s ⟨hf.env, hf.ok.nil es⟩⟩

noncomputable def dOne (args : List AV) (r : AV) : List AV → Option AV := fun a => by
  classical
  exact if a = args then some r else none

theorem dOne_is {args : List AV} {r : AV} : dOne args r args = some r := if_pos rfl

theorem dOne_ok {P : Program} {H : Heap} {f : FuncId} {args : List AV} {r : AV} (hc : Callable P f) (h : ACalls P f args H fun r' H' => r' = r ∧ H' = H) : FamOk P H f (dOne args r) := by
  intro a v hv
  unfold dOne at hv
  split at hv
  · rename_i e
    simp only [Option.some.injEq] at hv; subst hv; subst e
    exact ⟨hc, h⟩
  · cases hv

theorem vals_sub {α : Type} {c : α → List AV} {k : Nat} (hc : Cels c k) {H : Heap} {v : AV} {n l : Nat} {L : List α} (hv : Vals H v k n (cellsK c L)) (hn : n = L.length) (hl : l ≤ n) : Vals H (subW v l n) k (n - l) (cellsK c (L.drop l)) := by
  have hbid : ∀ j, (subW v l n).bid = some j → v.bid = some j := by
    intro j hj
    cases v <;> first | exact hj | (simp [subW, AV.bid] at hj; done)
  have hcl : (cellsK c (L.drop l)).length = (n - l) * k := by rw [ck_len hc, List.length_drop, hn]
  cases v with
  | slice id off n' cap es =>
    have e1 : n' = n := hv.len
    have e2 : es = k := by
      rcases hv.esn with h | h
      · cases h
      · simpa [AV.es] using h
    subst e1; subst e2
    refine ⟨rfl, rfl, .inr rfl, hcl, ?_, fun j hj => hv.bid j (hbid j hj)⟩
    have hr := hv.row
    simp only [subW, Heap.row] at hr ⊢
    by_cases h0 : n' - l = 0
    · rw [if_pos h0]
      have : L.drop l = [] := List.drop_eq_nil_of_le (by omega)
      rw [this]; rfl
    · rw [if_neg (by omega)] at hr
      rw [if_neg h0]
      simp only [Heap.read] at hr ⊢
      split at hr
      · rename_i b hb
        split at hr
        · rename_i h1
          simp only [Option.some.injEq] at hr
          have hm : l * es + (n' - l) * es = n' * es := by rw [← Nat.add_mul]; congr 1; omega
          rw [if_pos (by omega), ← ck_drop hc, ← hr, List.drop_take, List.drop_drop, show n' * es - l * es = (n' - l) * es by omega]
        · cases hr
      · cases hr
  | nilSlice =>
    have e1 : 0 = n := hv.len
    subst e1
    have : L = [] := List.eq_nil_of_length_eq_zero hn.symm
    subst this
    have h0 : l = 0 := by omega
    subst h0
    exact hv
  | _ => exact absurd hv.sl (by simp [AV.isSlice])
/- the pairs of points, in their order -/

theorem frs_ck : ∀ L : List Rat, frs L = cellsK frC L
  | [] => rfl
  | q :: L => by rw [frs, cellsK, frs_ck L]

theorem cels_fr : Cels frC 2 := ⟨fun _ => rfl, fun _ => rfl⟩

def fwL (f : Nat → Rat) : Nat → List Rat
  | 0 => []
  | i + 1 => fwL f i ++ [f i]

theorem fwL_len (f : Nat → Rat) : ∀ i, (fwL f i).length = i
  | 0 => rfl
  | i + 1 => by rw [fwL, List.length_append, fwL_len f i]; rfl

theorem fwL_nth (f : Nat → Rat) : ∀ {n i : Nat}, i < n → nthR (fwL f n) i = f i
  | 0, i, h => by omega
  | n + 1, i, h => by
    rw [fwL]
    rcases Nat.lt_or_ge i n with h1 | h1
    · rw [nthR_app (by rw [fwL_len]; exact h1), fwL_nth f h1]
    · have : i = n := by omega
      subst this
      have e := nthR_last (L := fwL f i) (q := f i)
      rwa [fwL_len] at e

/-- what is needed of a list of fractions of which the least or the greatest is taken -/
theorem rest_vals {H : Heap} {u : AV} {f : Nat → Rat} {n : Nat} (hv : Vals H u 2 n (frs (fwL f n))) (hn : 0 < n) : Vals H (subW u 1 n) 2 (n - 1) (frs ((fwL f n).drop 1)) ∧ ((fwL f n).drop 1).length = n - 1 ∧ ∀ i, i < n - 1 → nthR ((fwL f n).drop 1) i = f (i + 1) := by
  refine ⟨?_, ?_, fun i hi => ?_⟩
  · rw [frs_ck] at hv ⊢
    exact vals_sub cels_fr hv (fwL_len f n).symm (by omega)
  · rw [List.length_drop, fwL_len]
  · rw [← fwL_nth f (n := n) (i := i + 1) (by omega)]
    unfold nthR
    rw [List.getD_eq_getElem?_getD, List.getD_eq_getElem?_getD, List.getElem?_drop, Nat.add_comm]

theorem least_call {H : Heap} {u : AV} {f : Nat → Rat} {n : Nat} (hv : Vals H u 2 n (frs (fwL f n))) (hn : 0 < n) (hl : n ≤ 1000000) (hf : ∀ i j, i < n → j < n → FitA (f i) (f j)) : FamOk Try.prog H fn_impl_least_impl_Frac (dOne [frV (f 0), subW u 1 n] (frV (loR f (n - 1)))) := by
  obtain ⟨h1, h2, h3⟩ := rest_vals hv hn
  have h := leastF_ok (H := H) (w := subW u 1 n) (f := f) (L := (fwL f n).drop 1) (by rw [h2]; exact h1) (fun i hi => h3 i (by omega)) (by omega) (fun i j hi hj => hf i j (by omega) (by omega))
  rw [h2] at h
  exact dOne_ok code_impl_least_impl_Frac.callable h

noncomputable def opN (p : Prop) (q : Rat) : Int := by
  classical
  exact if p then q.num else 0

noncomputable def opD (p : Prop) (q : Rat) : Int := by
  classical
  exact if p then (q.den : Int) else 0

noncomputable abbrev opV (p : Prop) (q : Rat) : AV := .agg [.int .i64 (opN p q), .int .i64 (opD p q)]

theorem opV_yes {p : Prop} {q : Rat} (h : p) : opV p q = frV q := by
  unfold opV opN opD; rw [if_pos h, if_pos h]; rfl

theorem opV_no {p : Prop} {q : Rat} (h : ¬ p) : opV p q = fr0 := by
  unfold opV opN opD; rw [if_neg h, if_neg h]

theorem nth_rev {xs : List Int} {i : Nat} (h : i < xs.length) : nth xs.reverse i = nth xs (xs.length - 1 - i) := by
  rw [nth_of (by simp; omega), nth_of (by omega), List.getElem_reverse]

theorem Pts.neg {xs ys : List Int} (h : Pts xs ys) : Pts xs (ys.map (- ·)) := by
  obtain ⟨h1, h2, h3⟩ := h
  refine ⟨fun i hi => ?_, by simp [h2], h3⟩
  have h4 := h1 i hi
  rw [getD_map _ (by omega)]
  exact ⟨by simp; omega, h4.2.1, by omega⟩

theorem Cloud.neg {xs ys : List Int} (h : Cloud xs ys) : Cloud xs (ys.map (- ·)) := ⟨h.1.neg, h.2⟩
/- slopes of what is turned, of what is negated -/

theorem nth_take {xs : List Int} {m i : Nat} (h : i < m) : nth (xs.take m) i = nth xs i := by
  unfold nth
  simp [List.getD, List.getElem?_take_of_lt h]

theorem Pts.take {xs ys : List Int} (h : Pts xs ys) (m : Nat) : Pts (xs.take m) (ys.take m) := by
  obtain ⟨h1, h2, h3⟩ := h
  refine ⟨fun i hi => ?_, by simp [h2], by simp; omega⟩
  rw [List.length_take] at hi
  have h4 := h1 i (by omega)
  rw [nth_take (by omega), nth_take (by omega), List.length_take]
  exact ⟨by omega, h4.2⟩

theorem CvOk.take {xs ys : List Int} (h : CvOk xs ys) {m : Nat} (h1 : 1 ≤ m) (hm : m ≤ xs.length) : CvOk (xs.take m) (ys.take m) := by
  have h5 := h.1.2
  have hl : (xs.take m).length = m := by rw [List.length_take]; omega
  refine ⟨⟨h.1.1.take m, by rw [hl]; omega⟩, fun i hi k hk => ?_⟩
  rw [hl] at hi
  rw [nth_take (by omega), nth_take (by omega)]
  exact h.2 i (by omega) k hk

theorem stp_ageqS {A : Heap} {X : List Nat} {E : List (Nat × AV)} {S : Sig} {k : IntKind} {x y : MX} {a b : Int} (hx : evE E x = some (.agg [.int k a, .int k b])) (hy : evE E y = some (.agg [.int k a, .int k b])) : Stp A X E S (.ageq false 2 x y) (Is (.bool true) S) := by
  have h := stp_ageq2 (A := A) (X := X) (S := S) hx hy
  simpa using h

theorem stp_agneS {A : Heap} {X : List Nat} {E : List (Nat × AV)} {S : Sig} {k : IntKind} {x y : MX} {a b : Int} (hx : evE E x = some (.agg [.int k a, .int k b])) (hy : evE E y = some (.agg [.int k a, .int k b])) : Stp A X E S (.ageq true 2 x y) (Is (.bool false) S) := by
  have h := stp_ageq (A := A) (X := X) (S := S) (neg := true) (n := 2) (b := (a == a && (b == b && true))) hx hy rfl (by simp [flatEq])
  simpa using h

def mnA (S W : Nat → Rat) (i e : Nat) : Rat := (S e - S i) / (W e - W i)

def AscW (W : Nat → Rat) (n : Nat) : Prop := ∀ i, i < n → W i < W (i + 1)

theorem AscW.lt {W : Nat → Rat} {n : Nat} (h : AscW W n) {i : Nat} : ∀ {j}, i < j → j ≤ n → W i < W j
  | 0, h1, _ => absurd h1 (Nat.not_lt_zero _)
  | j + 1, h1, h2 => by
    have := h j h2
    rcases Nat.lt_or_ge i j with h3 | h3
    · have := h.lt (j := j) h3 (by omega); grind
    · rw [show i = j by omega]; exact this

theorem AscW.le {W : Nat → Rat} {n : Nat} (h : AscW W n) {i j : Nat} (h1 : i ≤ j) (h2 : j ≤ n) : W i ≤ W j := by
  rcases Nat.lt_or_ge i j with h3 | h3
  · exact Rat.le_of_lt (h.lt h3 h2)
  · rw [show i = j by omega]; exact Rat.le_refl

theorem AscW.sub {W : Nat → Rat} {n m : Nat} (h : AscW W n) (hm : m ≤ n) : AscW W m := fun i hi => h i (by omega)

theorem mnA_mul {S W : Nat → Rat} {i e : Nat} (h : W i < W e) : mnA S W i e * (W e - W i) = S e - S i := Rat.div_mul_cancel (by grind)

theorem mulR_le {a b d : Rat} (hd : 0 ≤ d) (h : a ≤ b) : a * d ≤ b * d := Rat.mul_le_mul_of_nonneg_right h hd

theorem mulR_ge {a b d : Rat} (hd : d ≤ 0) (h : a ≤ b) : b * d ≤ a * d := by
  have := mulR_le (a := a) (b := b) (d := -d) (by grind) h
  grind

/-- the line with slope c through s and e lies below all sums up to n; j is between s and e -/
def Sup (S W : Nat → Rat) (n j : Nat) (c : Rat) : Prop := ∃ s e, s ≤ j ∧ j < e ∧ e ≤ n ∧ S e - S s = c * (W e - W s) ∧ ∀ t, t ≤ n → c * (W t - W s) ≤ S t - S s

theorem Sup.uniq {S W : Nat → Rat} {n j : Nat} {c d : Rat} (hW : AscW W n) (h : Sup S W n j c) (h' : Sup S W n j d) : c = d := by
  have one : ∀ {c d : Rat}, Sup S W n j c → Sup S W n j d → ¬ c < d := by
    rintro c d ⟨s, e, h1, h2, h3, h4, h5⟩ ⟨s', e', g1, g2, g3, g4, g5⟩ hlt
    -- on e: S e is on the line of slope c through s; from s' on the line of slope d
    have a1 := h5 s' (by omega)
    have a2 := g5 e h3
    have a3 := hW.lt (i := s') (j := e) (by omega) h3
    have a4 := mulR_le (d := W e - W s') (by grind) (Rat.le_of_lt hlt)
    have a5 : c * (W e - W s') ≠ d * (W e - W s') := fun h => by
      have : (d - c) * (W e - W s') = 0 := by grind
      have h6 : 0 < (d - c) * (W e - W s') := Rat.mul_pos (by grind) (by grind)
      grind
    grind
  exact Rat.le_antisymm (Rat.not_lt.1 (one h' h)) (Rat.not_lt.1 (one h h'))

/- stacks of blocks: the last one's start ahead, e the end -/

def Bks (S W : Nat → Rat) : List Nat → Nat → Prop
  | [], e => e = 0
  | a :: r, e => a < e ∧ (∀ t, a ≤ t → t ≤ e → mnA S W a e * (W t - W a) ≤ S t - S a) ∧ Bks S W r a

def Inc (S W : Nat → Rat) : List Nat → Nat → Prop
  | [], _ => True
  | [_], _ => True
  | a :: b :: r, e => mnA S W b a < mnA S W a e ∧ Inc S W (b :: r) a

theorem Bks.len {S W : Nat → Rat} : ∀ {r : List Nat} {e}, Bks S W r e → r.length ≤ e
  | [], _, h => by simp
  | a :: r, e, h => by
    have := Bks.len h.2.2
    have := h.1
    simp only [List.length_cons]; omega

/-- the last block's line lies below all that is behind -/
theorem Bks.back {S W : Nat → Rat} {n : Nat} (hW : AscW W n) : ∀ {r : List Nat} {a e : Nat}, e ≤ n → Bks S W (a :: r) e → Inc S W (a :: r) e → ∀ t, t ≤ e → mnA S W a e * (W t - W a) ≤ S t - S a
  | [], a, e, he, h, _, t, ht => by
    obtain ⟨h1, h2, h3⟩ := h
    obtain rfl : a = 0 := h3
    exact h2 t (by omega) ht
  | b :: r, a, e, he, h, hi, t, ht => by
    have ⟨h1, h2, h3⟩ := h
    rcases Nat.le_total a t with h4 | h4
    · exact h2 t h4 ht
    · have := Bks.back hW (by omega) h3 hi.2 t h4
      have wba := hW.lt h3.1 (by omega)
      have p := mnA_mul (S := S) wba
      have wt := hW.le h4 (by omega)
      have := mulR_ge (d := W t - W a) (by grind) (Rat.le_of_lt hi.1)
      grind

/-- the block's mean at each place -/
def fitB (S W : Nat → Rat) : List Nat → Nat → Nat → Rat
  | [], _, _ => 0
  | a :: r, e, j => if a ≤ j then mnA S W a e else fitB S W r a j

theorem fitB_ge {S W : Nat → Rat} {a : Nat} {r : List Nat} {e j : Nat} (h : a ≤ j) : fitB S W (a :: r) e j = mnA S W a e := by
  rw [show fitB S W (a :: r) e j = if a ≤ j then mnA S W a e else fitB S W r a j from rfl, if_pos h]

theorem fitB_lt {S W : Nat → Rat} {a : Nat} {r : List Nat} {e j : Nat} (h : j < a) : fitB S W (a :: r) e j = fitB S W r a j := by
  rw [show fitB S W (a :: r) e j = if a ≤ j then mnA S W a e else fitB S W r a j from rfl, if_neg (by omega)]

noncomputable def fitS (S W : Nat → Rat) (r : List Nat) (e t : Nat) : Rat := sumR (fun i => fitB S W r e i * (W (i + 1) - W i)) t

theorem fitS_lt {S W : Nat → Rat} {a : Nat} {r : List Nat} {e t : Nat} (h : t ≤ a) : fitS S W (a :: r) e t = fitS S W r a t :=
  sumR_congr fun i hi => by rw [fitB_lt (by omega)]

theorem fitS_ge {S W : Nat → Rat} {a : Nat} {r : List Nat} {e : Nat} : ∀ {t}, a ≤ t → fitS S W (a :: r) e t = fitS S W r a a + mnA S W a e * (W t - W a) := by
  intro t ht
  obtain ⟨d, rfl⟩ := Nat.exists_eq_add_of_le ht
  clear ht
  induction d with
  | zero => rw [Nat.add_zero, fitS_lt (Nat.le_refl a)]; grind
  | succ d ih =>
    have ht : a ≤ a + d := by omega
    rw [← Nat.add_assoc]
    revert ih ht
    generalize a + d = t
    intro ih ht
    rw [show fitS S W (a :: r) e (t + 1) = fitS S W (a :: r) e t + fitB S W (a :: r) e t * (W (t + 1) - W t) from rfl, ih, fitB_ge ht]; grind

theorem Bks.sums {S W : Nat → Rat} {n : Nat} (hW : AscW W n) : ∀ {r : List Nat} {e : Nat}, e ≤ n → Bks S W r e → (∀ t, t ≤ e → fitS S W r e t ≤ S t - S 0) ∧ fitS S W r e e = S e - S 0
  | [], e, _, h => by
    obtain rfl : e = 0 := h
    have : fitS S W [] 0 0 = 0 := rfl
    refine ⟨fun t ht => ?_, by rw [this]; grind⟩
    obtain rfl : t = 0 := by omega
    rw [this]; grind
  | a :: r, e, he, h => by
    obtain ⟨h1, h2, h3⟩ := h
    obtain ⟨i1, i2⟩ := Bks.sums hW (by omega) h3
    refine ⟨fun t ht => ?_, ?_⟩
    · rcases Nat.le_total t a with h4 | h4
      · rw [fitS_lt h4]; exact i1 t h4
      · rw [fitS_ge h4, i2]
        have := h2 t h4 ht; grind
    · rw [fitS_ge (by omega), i2]
      have := mnA_mul (S := S) (hW.lt h1 he); grind

def Loads (xs ws : List Int) : Prop := (∀ w ∈ ws, 1 ≤ w ∧ w ≤ 5) ∧ Bd 30 xs ∧ xs.length = ws.length ∧ 1 ≤ xs.length ∧ xs.length ≤ 8

noncomputable instance (xs ws : List Int) : Decidable (Loads xs ws) := Classical.propDecidable _

theorem Loads.w {xs ws : List Int} (h : Loads xs ws) {i : Nat} (hi : i < xs.length) : 1 ≤ nth ws i ∧ nth ws i ≤ 5 := by
  have h1 : i < ws.length := by have := h.2.2.1; omega
  rw [nth_of h1]; exact h.1 _ (List.getElem_mem h1)

theorem Loads.x {xs ws : List Int} (h : Loads xs ws) (i : Nat) : -30 ≤ nth xs i ∧ nth xs i ≤ 30 := h.2.1.nth (by omega) i

theorem Loads.sums {xs ws : List Int} (h : Loads xs ws) {i : Nat} : ∀ {e}, i ≤ e → e ≤ xs.length →
    (((e - i : Nat) : Int) ≤ sumI ws e - sumI ws i ∧ sumI ws e - sumI ws i ≤ 5 * ((e - i : Nat) : Int)) ∧ (-(30 * (sumI ws e - sumI ws i)) ≤ dotT xs ws e - dotT xs ws i ∧ dotT xs ws e - dotT xs ws i ≤ 30 * (sumI ws e - sumI ws i))
  | 0, h1, _ => by obtain rfl : i = 0 := by omega
                   simp
  | e + 1, h1, h2 => by
    rcases Nat.lt_or_ge e i with h3 | h3
    · obtain rfl : i = e + 1 := by omega
      simp
    · have ih := h.sums (i := i) (e := e) h3 (by omega)
      have hw := h.w (i := e) (by omega)
      have hx := h.x e
      have m1 : nth xs e * nth ws e ≤ 30 * nth ws e := Int.mul_le_mul_of_nonneg_right hx.2 (by omega)
      have m2 : -30 * nth ws e ≤ nth xs e * nth ws e := Int.mul_le_mul_of_nonneg_right hx.1 (by omega)
      rw [show sumI ws (e + 1) = sumI ws e + nth ws e from rfl, show dotT xs ws (e + 1) = dotT xs ws e + nth xs e * nth ws e from rfl]
      generalize nth xs e * nth ws e = p at *
      omega

theorem Loads.pos {xs ws : List Int} (h : Loads xs ws) {i e : Nat} (h1 : i < e) (h2 : e ≤ xs.length) : 1 ≤ sumI ws e - sumI ws i ∧ sumI ws e - sumI ws i ≤ 40 := by
  have := (h.sums (i := i) (e := e) (by omega) h2).1
  have := h.2.2.2.2
  omega

def Dv (q : Rat) (D : Int) : Prop := 0 < D ∧ ∃ k : Int, q * (D : Rat) = (k : Rat)

theorem Dv.lift {q : Rat} {D m : Int} (h : Dv q D) (hm : 0 < m) : Dv q (D * m) := by
  obtain ⟨h1, k, h2⟩ := h
  exact ⟨Int.mul_pos h1 hm, k * m, by rw [Rat.intCast_mul, Rat.intCast_mul, ← Rat.mul_assoc, h2]⟩

theorem Dv.add {p q : Rat} {D : Int} (h : Dv p D) (h' : Dv q D) : Dv (p + q) D := by
  obtain ⟨h1, k, h2⟩ := h
  obtain ⟨_, l, h3⟩ := h'
  exact ⟨h1, k + l, by rw [Rat.intCast_add, ← h2, ← h3]; grind⟩

theorem Dv.mul {p q : Rat} {D E : Int} (h : Dv p D) (h' : Dv q E) : Dv (p * q) (D * E) := by
  obtain ⟨h1, k, h2⟩ := h
  obtain ⟨h4, l, h3⟩ := h'
  exact ⟨Int.mul_pos h1 h4, k * l, by rw [Rat.intCast_mul, Rat.intCast_mul, ← h2, ← h3]; grind⟩

theorem Dv.int (n : Int) : Dv (n : Rat) 1 := ⟨by omega, n, by simp⟩

theorem Dv.to {q : Rat} {D E : Int} (h : Dv q D) (e : D = E) : Dv q E := e ▸ h

theorem Loads.turn {xs ws : List Int} (h : Loads xs ws) : Loads (xs.reverse.map (- ·)) ws.reverse := by
  obtain ⟨h1, h2, h3, h4, h5⟩ := h
  refine ⟨fun w hw => h1 w (List.mem_reverse.1 hw), fun x hx => ?_, by simp [h3], by simpa using h4, by simpa using h5⟩
  obtain ⟨y, hy, rfl⟩ := List.mem_map.1 hx
  have := h2 y (List.mem_reverse.1 hy)
  omega

theorem Loads.back {xs ws : List Int} (h : Loads xs ws) : Loads xs.reverse ws.reverse := by
  obtain ⟨h1, h2, h3, h4, h5⟩ := h
  exact ⟨fun w hw => h1 w (List.mem_reverse.1 hw), fun x hx => h2 x (List.mem_reverse.1 hx), by simp [h3], by simpa using h4, by simpa using h5⟩

def sumY (g : Nat → Int) : Nat → Int
  | 0 => 0
  | n + 1 => sumY g n + g n

theorem sumY_congr {f g : Nat → Int} : ∀ {n}, (∀ i, i < n → f i = g i) → sumY f n = sumY g n
  | 0, _ => rfl
  | n + 1, h => by rw [sumY, sumY, sumY_congr fun i hi => h i (by omega), h n (by omega)]

theorem sumY_front (g : Nat → Int) : ∀ n, sumY g (n + 1) = g 0 + sumY (fun i => g (i + 1)) n
  | 0 => by simp [sumY]
  | n + 1 => by rw [sumY, sumY_front g n, sumY]; omega

theorem sumY_rev (g : Nat → Int) : ∀ n, sumY (fun i => g (n - 1 - i)) n = sumY g n
  | 0 => rfl
  | n + 1 => by
    rw [sumY_front, sumY, ← sumY_rev g n, show n + 1 - 1 - 0 = n by omega, Int.add_comm]
    congr 1
    exact sumY_congr fun i hi => by rw [show n + 1 - 1 - (i + 1) = n - 1 - i by omega]

theorem Loads.take {xs ws : List Int} (h : Loads xs ws) {k : Nat} (h1 : 1 ≤ k) (h2 : k ≤ xs.length) : Loads (xs.take k) (ws.take k) := by
  obtain ⟨g1, g2, g3, g4, g5⟩ := h
  exact ⟨fun w hw => g1 w (List.mem_of_mem_take hw), fun x hx => g2 x (List.mem_of_mem_take hx), by rw [List.length_take, List.length_take]; omega, by rw [List.length_take]; omega, by rw [List.length_take]; omega⟩

def Steps (xs : List Int) : Prop := Bd 30 xs ∧ 1 ≤ xs.length ∧ xs.length ≤ 8

noncomputable instance (xs : List Int) : Decidable (Steps xs) := Classical.propDecidable _

theorem Steps.x {xs : List Int} (h : Steps xs) (j : Nat) : -30 ≤ nth xs j ∧ nth xs j ≤ 30 := h.1.nth (by omega) j

theorem validHeights_ok {H : Heap} {a : AV} {xs : List Int} (ha : Ints H a xs) (hl : xs.length ≤ 1000000000) :
    ACalls Try.prog fn_impl_validHeights [a] H fun r H' => r = .bool (decide (Steps xs)) ∧ H' = H := by
  refine ACalls.val ?_ rfl
  refine code_impl_validHeights.go [.roI a xs.length xs] ⟨⟨rfl, ha⟩, trivial⟩ (by simp) ?_
  unfold mc_impl_validHeights
  have no : (Steps xs → False) → decide (Steps xs) = false := fun h => decide_eq_false h
  (repeat (first | refine gst (hk := ?_) | (show GO _ _ _ _ _ (⟨some _, none, _⟩ :: _) _; first | refine go_op (hk := ?_) | (refine go_nw (hk := ?_); intro u; try simp only [llc, lln, lna, lza]) | (refine go_np (hk := ?_); intro id)) | (show GO _ _ _ _ _ (⟨none, none, _⟩ :: _) _; refine go_st (hk := ?_)) | (show GO _ _ _ _ _ (⟨_, some _, _⟩ :: _) _; first | refine go_in (hk := ?_) | refine go_out (hk := ?_) | refine go_void (hk := ?_)) | (show GK _ _ _ _ (blockK _ _ _); refine gk_past rfl ?_) | (show GC _ _ _ _ _ (.cond _ _ _) _; first | refine gc_yes (h1 := ?_) | refine gc_no (h1 := ?_))))
  refine go_split 8 rfl (fun h1 => ?_) (fun h1 => ?_)
  · (repeat (first | refine gst (hk := ?_) | (show GO _ _ _ _ _ (⟨some _, none, _⟩ :: _) _; first | refine go_op (hk := ?_) | (refine go_nw (hk := ?_); intro u; try simp only [llc, lln, lna, lza]) | (refine go_np (hk := ?_); intro id)) | (show GO _ _ _ _ _ (⟨none, none, _⟩ :: _) _; refine go_st (hk := ?_)) | (show GO _ _ _ _ _ (⟨_, some _, _⟩ :: _) _; first | refine go_in (hk := ?_) | refine go_out (hk := ?_) | refine go_void (hk := ?_)) | (show GK _ _ _ _ (blockK _ _ _); refine gk_past rfl ?_) | (show GC _ _ _ _ _ (.cond _ _ _) _; first | refine gc_yes (h1 := ?_) | refine gc_no (h1 := ?_))))
    exact gk_ret rfl fun H' hH => ⟨by rw [no fun h => by have := h.2.1; omega]; rfl, hH.leE⟩
  (repeat (first | refine gst (hk := ?_) | (show GO _ _ _ _ _ (⟨some _, none, _⟩ :: _) _; first | refine go_op (hk := ?_) | (refine go_nw (hk := ?_); intro u; try simp only [llc, lln, lna, lza]) | (refine go_np (hk := ?_); intro id)) | (show GO _ _ _ _ _ (⟨none, none, _⟩ :: _) _; refine go_st (hk := ?_)) | (show GO _ _ _ _ _ (⟨_, some _, _⟩ :: _) _; first | refine go_in (hk := ?_) | refine go_out (hk := ?_) | refine go_void (hk := ?_)) | (show GK _ _ _ _ (blockK _ _ _); refine gk_past rfl ?_) | (show GC _ _ _ _ _ (.cond _ _ _) _; first | refine gc_yes (h1 := ?_) | refine gc_no (h1 := ?_))))
  refine gc_cond rfl (fun h2 => ?_) (fun h2 => ?_)
  · (repeat (first | refine gst (hk := ?_) | (show GO _ _ _ _ _ (⟨some _, none, _⟩ :: _) _; first | refine go_op (hk := ?_) | (refine go_nw (hk := ?_); intro u; try simp only [llc, lln, lna, lza]) | (refine go_np (hk := ?_); intro id)) | (show GO _ _ _ _ _ (⟨none, none, _⟩ :: _) _; refine go_st (hk := ?_)) | (show GO _ _ _ _ _ (⟨_, some _, _⟩ :: _) _; first | refine go_in (hk := ?_) | refine go_out (hk := ?_) | refine go_void (hk := ?_)) | (show GK _ _ _ _ (blockK _ _ _); refine gk_past rfl ?_) | (show GC _ _ _ _ _ (.cond _ _ _) _; first | refine gc_yes (h1 := ?_) | refine gc_no (h1 := ?_))))
    exact gk_ret rfl fun H' hH => ⟨by rw [no fun h => by have := h.2.2; omega]; rfl, hH.leE⟩
  (repeat (first | refine gst (hk := ?_) | (show GO _ _ _ _ _ (⟨some _, none, _⟩ :: _) _; first | refine go_op (hk := ?_) | (refine go_nw (hk := ?_); intro u; try simp only [llc, lln, lna, lza]) | (refine go_np (hk := ?_); intro id)) | (show GO _ _ _ _ _ (⟨none, none, _⟩ :: _) _; refine go_st (hk := ?_)) | (show GO _ _ _ _ _ (⟨_, some _, _⟩ :: _) _; first | refine go_in (hk := ?_) | refine go_out (hk := ?_) | refine go_void (hk := ?_)) | (show GK _ _ _ _ (blockK _ _ _); refine gk_past rfl ?_) | (show GC _ _ _ _ _ (.cond _ _ _) _; first | refine gc_yes (h1 := ?_) | refine gc_no (h1 := ?_))))
  refine gc_loop (γ := Nat) (fun i => [(13, a), (14, .int .i64 (xs.length : Int)), (15, .int .i64 (i : Int))]) (fun _ => [.roI a xs.length xs]) (fun i => i ≤ xs.length ∧ ∀ j, j < i → -30 ≤ nth xs j ∧ nth xs j ≤ 30) (fun i => xs.length - i) 0 ⟨Nat.zero_le _, fun k hk => by omega⟩ (hb := ?_)
  rintro i ⟨hi, hp⟩ I ν m hk
  (repeat (first | refine gst (hk := ?_) | (show GO _ _ _ _ _ (⟨some _, none, _⟩ :: _) _; first | refine go_op (hk := ?_) | (refine go_nw (hk := ?_); intro u; try simp only [llc, lln, lna, lza]) | (refine go_np (hk := ?_); intro id)) | (show GO _ _ _ _ _ (⟨none, none, _⟩ :: _) _; refine go_st (hk := ?_)) | (show GO _ _ _ _ _ (⟨_, some _, _⟩ :: _) _; first | refine go_in (hk := ?_) | refine go_out (hk := ?_) | refine go_void (hk := ?_)) | (show GK _ _ _ _ (blockK _ _ _); refine gk_past rfl ?_) | (show GC _ _ _ _ _ (.cond _ _ _) _; first | refine gc_yes (h1 := ?_) | refine gc_no (h1 := ?_))))
  refine gc_cond rfl (fun h => ?_) (fun h => ?_)
  · (repeat (first | refine gst (hk := ?_) | (show GO _ _ _ _ _ (⟨some _, none, _⟩ :: _) _; first | refine go_op (hk := ?_) | (refine go_nw (hk := ?_); intro u; try simp only [llc, lln, lna, lza]) | (refine go_np (hk := ?_); intro id)) | (show GO _ _ _ _ _ (⟨none, none, _⟩ :: _) _; refine go_st (hk := ?_)) | (show GO _ _ _ _ _ (⟨_, some _, _⟩ :: _) _; first | refine go_in (hk := ?_) | refine go_out (hk := ?_) | refine go_void (hk := ?_)) | (show GK _ _ _ _ (blockK _ _ _); refine gk_past rfl ?_) | (show GC _ _ _ _ _ (.cond _ _ _) _; first | refine gc_yes (h1 := ?_) | refine gc_no (h1 := ?_))))
    refine go_split 21 rfl (fun h3 => ?_) (fun h3 => ?_)
    · (repeat (first | refine gst (hk := ?_) | (show GO _ _ _ _ _ (⟨some _, none, _⟩ :: _) _; first | refine go_op (hk := ?_) | (refine go_nw (hk := ?_); intro u; try simp only [llc, lln, lna, lza]) | (refine go_np (hk := ?_); intro id)) | (show GO _ _ _ _ _ (⟨none, none, _⟩ :: _) _; refine go_st (hk := ?_)) | (show GO _ _ _ _ _ (⟨_, some _, _⟩ :: _) _; first | refine go_in (hk := ?_) | refine go_out (hk := ?_) | refine go_void (hk := ?_)) | (show GK _ _ _ _ (blockK _ _ _); refine gk_past rfl ?_) | (show GC _ _ _ _ _ (.cond _ _ _) _; first | refine gc_yes (h1 := ?_) | refine gc_no (h1 := ?_))))
      exact gk_ret rfl fun H' hH => ⟨by rw [no fun hL => by have := hL.x i; omega]; rfl, hH.leE⟩
    (repeat (first | refine gst (hk := ?_) | (show GO _ _ _ _ _ (⟨some _, none, _⟩ :: _) _; first | refine go_op (hk := ?_) | (refine go_nw (hk := ?_); intro u; try simp only [llc, lln, lna, lza]) | (refine go_np (hk := ?_); intro id)) | (show GO _ _ _ _ _ (⟨none, none, _⟩ :: _) _; refine go_st (hk := ?_)) | (show GO _ _ _ _ _ (⟨_, some _, _⟩ :: _) _; first | refine go_in (hk := ?_) | refine go_out (hk := ?_) | refine go_void (hk := ?_)) | (show GK _ _ _ _ (blockK _ _ _); refine gk_past rfl ?_) | (show GC _ _ _ _ _ (.cond _ _ _) _; first | refine gc_yes (h1 := ?_) | refine gc_no (h1 := ?_))))
    refine gc_cond rfl (fun h4 => ?_) (fun h4 => ?_)
    · (repeat (first | refine gst (hk := ?_) | (show GO _ _ _ _ _ (⟨some _, none, _⟩ :: _) _; first | refine go_op (hk := ?_) | (refine go_nw (hk := ?_); intro u; try simp only [llc, lln, lna, lza]) | (refine go_np (hk := ?_); intro id)) | (show GO _ _ _ _ _ (⟨none, none, _⟩ :: _) _; refine go_st (hk := ?_)) | (show GO _ _ _ _ _ (⟨_, some _, _⟩ :: _) _; first | refine go_in (hk := ?_) | refine go_out (hk := ?_) | refine go_void (hk := ?_)) | (show GK _ _ _ _ (blockK _ _ _); refine gk_past rfl ?_) | (show GC _ _ _ _ _ (.cond _ _ _) _; first | refine gc_yes (h1 := ?_) | refine gc_no (h1 := ?_))))
      exact gk_ret rfl fun H' hH => ⟨by rw [no fun hL => by have := hL.x i; omega]; rfl, hH.leE⟩
    · (repeat (first | refine gst (hk := ?_) | (show GO _ _ _ _ _ (⟨some _, none, _⟩ :: _) _; first | refine go_op (hk := ?_) | (refine go_nw (hk := ?_); intro u; try simp only [llc, lln, lna, lza]) | (refine go_np (hk := ?_); intro id)) | (show GO _ _ _ _ _ (⟨none, none, _⟩ :: _) _; refine go_st (hk := ?_)) | (show GO _ _ _ _ _ (⟨_, some _, _⟩ :: _) _; first | refine go_in (hk := ?_) | refine go_out (hk := ?_) | refine go_void (hk := ?_)) | (show GK _ _ _ _ (blockK _ _ _); refine gk_past rfl ?_) | (show GC _ _ _ _ _ (.cond _ _ _) _; first | refine gc_yes (h1 := ?_) | refine gc_no (h1 := ?_))))
      refine gk_next (hk (i + 1) ⟨by omega, fun j hj => ?_⟩ (by omega))
      rcases Nat.lt_or_ge j i with h5 | h5
      · exact hp j h5
      · rw [show j = i by omega]; omega
  · obtain rfl : i = xs.length := by omega
    have h6 : Bd 30 xs := fun x hx => by
      obtain ⟨m, hm, rfl⟩ := nth_ex hx
      exact hp m hm
    (repeat (first | refine gst (hk := ?_) | (show GO _ _ _ _ _ (⟨some _, none, _⟩ :: _) _; first | refine go_op (hk := ?_) | (refine go_nw (hk := ?_); intro u; try simp only [llc, lln, lna, lza]) | (refine go_np (hk := ?_); intro id)) | (show GO _ _ _ _ _ (⟨none, none, _⟩ :: _) _; refine go_st (hk := ?_)) | (show GO _ _ _ _ _ (⟨_, some _, _⟩ :: _) _; first | refine go_in (hk := ?_) | refine go_out (hk := ?_) | refine go_void (hk := ?_)) | (show GK _ _ _ _ (blockK _ _ _); refine gk_past rfl ?_) | (show GC _ _ _ _ _ (.cond _ _ _) _; first | refine gc_yes (h1 := ?_) | refine gc_no (h1 := ?_))))
    exact gk_ret rfl fun H' hH => ⟨by
      have : Steps xs := ⟨h6, by omega, by omega⟩
      simp [tupleOf, this], hH.leE⟩

def OneC (a : AV) : Prop := a.cells = [a] ∧ a.one = true

theorem one_slice {H : Heap} {v : AV} {es n : Nat} {cs : List AV} (h : Vals H v es n cs) : OneC v := by
  have hs := h.sl
  cases v <;> simp [AV.isSlice] at hs <;> exact ⟨rfl, rfl⟩

abbrev nthV (vs : List AV) (i : Nat) : AV := nthA .any vs i

theorem stp_ldV {A : Heap} {X : List Nat} {E : List (Nat × AV)} {S : Sig} {p : MX} {v : AV} {n i : Nat} {vs : List AV} (hp : evE E p = some (v.elem i)) (hh : Has S v 1 n vs) (hn : n = vs.length) (hi : i < vs.length) : Stp A X E S (.ld p 1 false) (Is (nthV vs i) S) :=
  stp_ldn (ds := [nthV vs i]) hp hh (by omega) (by
    rw [Nat.mul_one, show nthV vs i = vs[i] from nthA_of hi, List.drop_eq_getElem_cons hi]; rfl) rfl

structure BK where
  id : Nat
  k : Kd
  v : AV
  s : Nat
  e : Nat

def BKok (b : BK) : Prop := b.k = .rw ∨ (b.k = .ro ∧ ∃ id off, b.v = .slice id off (b.e - b.s) (some (b.e - b.s)) 2)

theorem BKok.kd {b : BK} (h : BKok b) : b.k = .rw ∨ b.k = .ro := h.imp (fun h => h) fun h => h.1

structure Cst {α : Type} (op : α → α → α) (le : α → α → Prop) : Prop where
  assoc : ∀ a b c, op (op a b) c = op a (op b c)
  comm : ∀ a b, op a b = op b a
  mono : ∀ {a b} c, le a b → le (op a c) (op b c)
  refl : ∀ a, le a a
  trans : ∀ {a b c}, le a b → le b c → le a c
  anti : ∀ {a b}, le a b → le b a → a = b

inductive Cuts {α : Type} (op : α → α → α) (c : Nat → Nat → α) : Nat → Nat → Nat → α → Prop
  | one {i k : Nat} (h : i < k) : Cuts op c 1 i k (c i k)
  | snoc {p i m k : Nat} {v : α} (h : Cuts op c p i m v) (hk : m < k) : Cuts op c (p + 1) i k (op v (c m k))

theorem Cuts.lt {α : Type} {op : α → α → α} {c : Nat → Nat → α} {p i k : Nat} {v : α} (h : Cuts op c p i k v) : i < k ∧ 1 ≤ p ∧ i + p ≤ k := by
  induction h with
  | one h => omega
  | snoc h hk ih => omega

theorem Cuts.cons {α : Type} {op : α → α → α} {le : α → α → Prop} (hc : Cst op le) {c : Nat → Nat → α} {p i m k : Nat} {v : α} (hi : i < m) (h : Cuts op c p m k v) : Cuts op c (p + 1) i k (op (c i m) v) := by
  induction h with
  | one h => exact .snoc (.one hi) h
  | snoc h hk ih => rw [← hc.assoc]; exact .snoc (ih hi) hk

theorem Cuts.uncons {α : Type} {op : α → α → α} {le : α → α → Prop} (hc : Cst op le) {c : Nat → Nat → α} {p i k : Nat} {v : α} (h : Cuts op c p i k v) : (p = 1 ∧ v = c i k) ∨ ∃ q m w, p = q + 1 ∧ i < m ∧ Cuts op c q m k w ∧ v = op (c i m) w := by
  induction h with
  | one h => exact .inl ⟨rfl, rfl⟩
  | @snoc p i m k v h hk ih =>
    refine .inr ?_
    rcases ih with ⟨rfl, rfl⟩ | ⟨q, m', w, rfl, h1, h2, rfl⟩
    · exact ⟨1, m, _, rfl, h.lt.1, .one hk, rfl⟩
    · exact ⟨q + 1, m', _, rfl, h1, .snoc h2 hk, hc.assoc _ _ _⟩

def LeastC {α : Type} (op : α → α → α) (le : α → α → Prop) (c : Nat → Nat → α) (P i k : Nat) (v : α) : Prop := (∃ q, q ≤ P ∧ Cuts op c q i k v) ∧ ∀ q w, q ≤ P → Cuts op c q i k w → le v w

theorem LeastC.uniq {α : Type} {op : α → α → α} {le : α → α → Prop} (hc : Cst op le) {c : Nat → Nat → α} {P i k : Nat} {v w : α} (h : LeastC op le c P i k v) (h' : LeastC op le c P i k w) : v = w := by
  obtain ⟨⟨q, h1, h2⟩, h3⟩ := h
  obtain ⟨⟨q', h1', h2'⟩, h3'⟩ := h'
  exact hc.anti (h3 _ _ h1' h2') (h3' _ _ h1 h2)

theorem LeastC.pos {α : Type} {op : α → α → α} {le : α → α → Prop} {c : Nat → Nat → α} {P i k : Nat} {v : α} (h : LeastC op le c P i k v) : 1 ≤ P ∧ i < k := by
  obtain ⟨⟨q, h1, h2⟩, _⟩ := h
  have := h2.lt
  omega

theorem leastC_one {α : Type} {op : α → α → α} {le : α → α → Prop} (hc : Cst op le) {c : Nat → Nat → α} {i k : Nat} (h : i < k) : LeastC op le c 1 i k (c i k) := by
  refine ⟨⟨1, Nat.le_refl _, .one h⟩, fun q w hq hw => ?_⟩
  cases hw with
  | one h => exact hc.refl _
  | snoc h hk => have := h.lt; omega

/-- one piece more, at the end -/
theorem leastC_snoc {α : Type} {op : α → α → α} {le : α → α → Prop} (hc : Cst op le) {c : Nat → Nat → α} {P i k : Nat} {v v0 : α} {f : Nat → α} (h0 : LeastC op le c P i k v0) (hf : ∀ m, i < m → m < k → LeastC op le c P i m (f m)) (hv : v = v0 ∨ ∃ m, i < m ∧ m < k ∧ v = op (f m) (c m k)) (h1 : le v v0) (h2 : ∀ m, i < m → m < k → le v (op (f m) (c m k))) : LeastC op le c (P + 1) i k v := by
  refine ⟨?_, fun q w hq hw => ?_⟩
  · rcases hv with rfl | ⟨m, m1, m2, rfl⟩
    · obtain ⟨⟨q, g1, g2⟩, _⟩ := h0
      exact ⟨q, by omega, g2⟩
    · obtain ⟨⟨q, g1, g2⟩, _⟩ := hf m m1 m2
      exact ⟨q + 1, by omega, .snoc g2 m2⟩
  · cases hw with
    | one h => exact hc.trans h1 (h0.2 1 _ h0.pos.1 (.one h))
    | @snoc p _ m _ w' h hk =>
      have hl := h.lt
      exact hc.trans (h2 m hl.1 hk) (hc.mono _ ((hf m hl.1 hk).2 p w' (by omega) h))

/-- one piece more, ahead -/
theorem leastC_cons {α : Type} {op : α → α → α} {le : α → α → Prop} (hc : Cst op le) {c : Nat → Nat → α} {P i k : Nat} {v : α} {f : Nat → α} (hik : i < k) (hf : ∀ m, i < m → m < k → LeastC op le c P m k (f m)) (hv : v = c i k ∨ ∃ m, i < m ∧ m < k ∧ v = op (c i m) (f m)) (h1 : le v (c i k)) (h2 : ∀ m, i < m → m < k → le v (op (c i m) (f m))) : LeastC op le c (P + 1) i k v := by
  refine ⟨?_, fun q w hq hw => ?_⟩
  · rcases hv with rfl | ⟨m, m1, m2, rfl⟩
    · exact ⟨1, by omega, .one hik⟩
    · obtain ⟨⟨q, g1, g2⟩, _⟩ := hf m m1 m2
      exact ⟨q + 1, by omega, .cons hc m1 g2⟩
  · rcases hw.uncons hc with ⟨rfl, rfl⟩ | ⟨q', m, w', rfl, g1, g2, rfl⟩
    · exact h1
    · have hl := g2.lt
      refine hc.trans (h2 m g1 hl.1) ?_
      have := hc.mono (c i m) ((hf m g1 hl.1).2 q' w' (by omega) g2)
      rw [hc.comm _ (c i m), hc.comm w' (c i m)] at this
      exact this

/-- the other way round -/
theorem Cuts.turn {α : Type} {op : α → α → α} {le : α → α → Prop} (hc : Cst op le) {c d : Nat → Nat → α} {n : Nat} (hd : ∀ i k, i < k → k ≤ n → d i k = c (n - k) (n - i)) {p i k : Nat} {v : α} (h : Cuts op d p i k v) (hk : k ≤ n) : Cuts op c p (n - k) (n - i) v := by
  induction h with
  | one h => rw [hd _ _ h hk]; exact .one (by omega)
  | @snoc p i m k v h hmk ih =>
    have := ih (by omega)
    rw [hd _ _ hmk hk, hc.comm]
    exact .cons hc (by omega) this

theorem LeastC.turn {α : Type} {op : α → α → α} {le : α → α → Prop} (hc : Cst op le) {c d : Nat → Nat → α} {n P : Nat} (hd : ∀ i k, i < k → k ≤ n → d i k = c (n - k) (n - i)) {v : α} (h : LeastC op le d P 0 n v) : LeastC op le c P 0 n v := by
  obtain ⟨⟨q, h1, h2⟩, h3⟩ := h
  refine ⟨⟨q, h1, by simpa using h2.turn hc hd (Nat.le_refl _)⟩, fun q w hq hw => h3 q w hq ?_⟩
  have hd' : ∀ i k, i < k → k ≤ n → c i k = d (n - k) (n - i) := fun i k hik hk => by
    rw [hd (n - k) (n - i) (by omega) (by omega)]
    congr 1 <;> omega
  simpa using hw.turn hc hd' (Nat.le_refl _)

theorem LeastC.congr {α : Type} {op : α → α → α} {le : α → α → Prop} {c d : Nat → Nat → α} {n P : Nat} (hd : ∀ i k, i < k → k ≤ n → d i k = c i k) {v : α} (h : LeastC op le d P 0 n v) : LeastC op le c P 0 n v := by
  have key : ∀ {c d : Nat → Nat → α}, (∀ i k, i < k → k ≤ n → d i k = c i k) → ∀ {p i k : Nat} {v : α}, Cuts op d p i k v → k ≤ n → Cuts op c p i k v := by
    intro c d hd p i k v h
    induction h with
    | one h => intro hk; rw [hd _ _ h hk]; exact .one h
    | snoc h hmk ih => intro hk; rw [hd _ _ hmk hk]; exact .snoc (ih (by omega)) hmk
  obtain ⟨⟨q, h1, h2⟩, h3⟩ := h
  exact ⟨⟨q, h1, key hd h2 (Nat.le_refl _)⟩, fun q w hq hw => h3 q w hq (key (fun i k h1 h2 => (hd i k h1 h2).symm) hw (Nat.le_refl _))⟩

theorem cstR : Cst (α := Rat) (· + ·) (· ≤ ·) where
  assoc a b c := Rat.add_assoc a b c
  comm a b := Rat.add_comm a b
  mono c h := by
    grind
  refl a := Rat.le_refl
  trans h1 h2 := Rat.le_trans h1 h2
  anti h1 h2 := Rat.le_antisymm h1 h2

def wsS (xs : List Int) (i d : Nat) : Int := sumY (fun j => nth xs (i + j)) d

def wsQ (xs : List Int) (i d : Nat) : Int := sumY (fun j => nth xs (i + j) * nth xs (i + j)) d

def pieR (xs : List Int) (i k : Nat) : Rat := ((((k - i : Nat) : Int) * wsQ xs i (k - i) - wsS xs i (k - i) * wsS xs i (k - i) : Int) : Rat) / (((k - i : Nat) : Int) : Rat)

theorem wsS_neg (xs : List Int) (i : Nat) : ∀ d, wsS (negL xs) i d = - wsS xs i d
  | 0 => rfl
  | d + 1 => by
    show wsS (negL xs) i d + nth (negL xs) (i + d) = -(wsS xs i d + nth xs (i + d))
    rw [wsS_neg xs i d, nth_negL]; omega

theorem wsQ_neg (xs : List Int) (i : Nat) : ∀ d, wsQ (negL xs) i d = wsQ xs i d
  | 0 => rfl
  | d + 1 => by
    show wsQ (negL xs) i d + nth (negL xs) (i + d) * nth (negL xs) (i + d) = wsQ xs i d + nth xs (i + d) * nth xs (i + d)
    rw [wsQ_neg xs i d, nth_negL, Int.neg_mul_neg]

theorem pie_neg (xs : List Int) (i k : Nat) : pieR (negL xs) i k = pieR xs i k := by
  unfold pieR
  rw [wsS_neg, wsQ_neg, Int.neg_mul_neg]

theorem sumY_win {f g : Nat → Int} {d : Nat} (h : ∀ j, j < d → f j = g (d - 1 - j)) : sumY f d = sumY g d := by
  rw [← sumY_rev g d]
  exact sumY_congr h

theorem pie_turn {xs : List Int} {i k : Nat} (h : i < k) (hk : k ≤ xs.length) : pieR xs.reverse i k = pieR xs (xs.length - k) (xs.length - i) := by
  have e : xs.length - i - (xs.length - k) = k - i := by omega
  have key : ∀ j, j < k - i → nth xs.reverse (i + j) = nth xs (xs.length - k + (k - i - 1 - j)) := fun j hj => by
    rw [nth_rev (by omega)]; congr 1; omega
  have e1 : wsS xs.reverse i (k - i) = wsS xs (xs.length - k) (k - i) := sumY_win key
  have e2 : wsQ xs.reverse i (k - i) = wsQ xs (xs.length - k) (k - i) := sumY_win fun j hj => by rw [key j hj]
  unfold pieR
  rw [e, e1, e2]

theorem ws_bd {xs : List Int} (hb : ∀ j, -30 ≤ nth xs j ∧ nth xs j ≤ 30) (i : Nat) : ∀ d : Nat, (-(30 * (d : Int)) ≤ wsS xs i d ∧ wsS xs i d ≤ 30 * (d : Int)) ∧ 0 ≤ wsQ xs i d ∧ wsQ xs i d ≤ 900 * (d : Int)
  | 0 => by simp [wsS, wsQ, sumY]
  | d + 1 => by
    obtain ⟨⟨a1, a2⟩, a3, a4⟩ := ws_bd hb i d
    have hx := hb (i + d)
    rw [show wsS xs i (d + 1) = wsS xs i d + nth xs (i + d) from rfl, show wsQ xs i (d + 1) = wsQ xs i d + nth xs (i + d) * nth xs (i + d) from rfl]
    generalize nth xs (i + d) = x at *
    have m1 := absmul (k := x) (l := x) (A := 30) (B := 30) (by omega) (by omega) (by omega) (by omega)
    have m0 : 0 ≤ x * x := by
      rcases Int.le_total 0 x with g | g
      · exact Int.mul_nonneg g g
      · have := Int.mul_nonneg (show 0 ≤ -x by omega) (show 0 ≤ -x by omega)
        rwa [Int.neg_mul_neg] at this
    omega

theorem pie_fd {xs : List Int} (hb : ∀ j, -30 ≤ nth xs j ∧ nth xs j ≤ 30) {i k : Nat} (h : i < k) (hk : k ≤ i + 8) : FD (pieR xs i k) (((k - i : Nat) : Int)) 115200 := by
  obtain ⟨a1, a3, a4⟩ := ws_bd hb i (k - i)
  refine FD.div (by omega) ?_
  generalize hn : k - i = n at *
  have m1 := absmul (k := wsS xs i n) (l := wsS xs i n) (A := 240) (B := 240) (by omega) (by omega) (by omega) (by omega)
  have m2 : (n : Int) * wsQ xs i n ≤ 8 * 7200 := Int.mul_le_mul (by omega) (by omega) (by omega) (by omega)
  have m3 : 0 ≤ (n : Int) * wsQ xs i n := Int.mul_nonneg (by omega) (by omega)
  generalize wsS xs i n * wsS xs i n = p at *
  generalize (n : Int) * wsQ xs i n = q at *
  omega

theorem pie_fd2 {xs : List Int} (hb : ∀ j, -30 ≤ nth xs j ∧ nth xs j ≤ 30) {i k : Nat} (h : i < k) (hk : k ≤ i + 8) : FD (pieR xs i k) 840 96768000 := by
  have f := pie_fd hb h hk
  have key : ∃ m : Int, 0 < m ∧ ((k - i : Nat) : Int) * m = 840 ∧ m ≤ 840 := by
    have h1 : k - i = 1 ∨ k - i = 2 ∨ k - i = 3 ∨ k - i = 4 ∨ k - i = 5 ∨ k - i = 6 ∨ k - i = 7 ∨ k - i = 8 := by omega
    rcases h1 with h1 | h1 | h1 | h1 | h1 | h1 | h1 | h1 <;> rw [h1]
    · exact ⟨840, by omega⟩
    · exact ⟨420, by omega⟩
    · exact ⟨280, by omega⟩
    · exact ⟨210, by omega⟩
    · exact ⟨168, by omega⟩
    · exact ⟨140, by omega⟩
    · exact ⟨120, by omega⟩
    · exact ⟨105, by omega⟩
  obtain ⟨m, m1, m2, m3⟩ := key
  exact ((f.lift m1).to m2).mono (by omega)

theorem cuts_fd {xs : List Int} (hb : ∀ j, -30 ≤ nth xs j ∧ nth xs j ≤ 30) {p i k : Nat} {v : Rat} (h : Cuts (· + ·) (pieR xs) p i k v) : k ≤ 8 → FD v 840 (96768000 * (p : Int)) := by
  induction h with
  | @one i k h => intro hk; exact (pie_fd2 hb h (by omega)).mono (by omega)
  | @snoc p i m k v h hmk ih =>
    intro hk
    exact ((ih (by omega)).add (pie_fd2 hb hmk (by omega))).mono (by omega)

def winL (xs : List Int) (i k : Nat) : List Int := (xs.drop i).take (k - i)

theorem win_nth {xs : List Int} {i k j : Nat} (hk : k ≤ xs.length) (hj : j < k - i) : nth (winL xs i k) j = nth xs (i + j) := by
  unfold winL
  have h1 : j < ((xs.drop i).take (k - i)).length := by rw [List.length_take, List.length_drop]; omega
  rw [nth_of h1, nth_of (by omega), List.getElem_take, List.getElem_drop]

structure SelOk {α : Type} (le : α → α → Prop) (sel : α → α → α) : Prop where
  or : ∀ a b, sel a b = a ∨ sel a b = b
  l : ∀ a b, le (sel a b) a
  r : ∀ a b, le (sel a b) b

def selR (a b : Rat) : Rat := if b < a then b else a

theorem selR_ok : SelOk (α := Rat) (· ≤ ·) selR where
  or a b := by unfold selR; split <;> simp
  l a b := by
    unfold selR; split
    · rename_i h; exact Rat.le_of_lt h
    · exact Rat.le_refl
  r a b := by
    unfold selR; split
    · exact Rat.le_refl
    · rename_i h; exact Rat.not_lt.1 h

def seqm {α : Type} (sel : α → α → α) (v0 : α) (g : Nat → α) : Nat → α
  | 0 => v0
  | m + 1 => sel (seqm sel v0 g m) (g (m + 1))

theorem seqm_is {α : Type} {op : α → α → α} {le : α → α → Prop} (hc : Cst op le) {sel : α → α → α} (hs : SelOk le sel) (v0 : α) (g : Nat → α) : ∀ m, (seqm sel v0 g m = v0 ∨ ∃ j, 1 ≤ j ∧ j ≤ m ∧ seqm sel v0 g m = g j) ∧ le (seqm sel v0 g m) v0 ∧ ∀ j, 1 ≤ j → j ≤ m → le (seqm sel v0 g m) (g j)
  | 0 => ⟨.inl rfl, hc.refl _, fun j h1 h2 => by omega⟩
  | m + 1 => by
    obtain ⟨h1, h2, h3⟩ := seqm_is hc hs v0 g m
    rw [seqm]
    refine ⟨?_, hc.trans (hs.l _ _) h2, fun j j1 j2 => ?_⟩
    · rcases hs.or (seqm sel v0 g m) (g (m + 1)) with e | e
      · rw [e]
        rcases h1 with h1 | ⟨j, j1, j2, j3⟩
        · exact .inl h1
        · exact .inr ⟨j, j1, by omega, j3⟩
      · exact .inr ⟨m + 1, by omega, Nat.le_refl _, e⟩
    · rcases Nat.lt_or_ge m j with g1 | g1
      · obtain rfl : j = m + 1 := by omega
        exact hs.r _ _
      · exact hc.trans (hs.l _ _) (h3 j j1 g1)

/-- by steps: p + 1 pieces of the first k numbers -/
def dpF {α : Type} (op : α → α → α) (sel : α → α → α) (c : Nat → Nat → α) : Nat → Nat → α
  | 0, k => c 0 k
  | p + 1, k => seqm sel (dpF op sel c p k) (fun i => op (dpF op sel c p i) (c i k)) (k - 1)

theorem dp_least {α : Type} {op : α → α → α} {le : α → α → Prop} (hc : Cst op le) {sel : α → α → α} (hs : SelOk le sel) (c : Nat → Nat → α) : ∀ p k, 1 ≤ k → LeastC op le c (p + 1) 0 k (dpF op sel c p k)
  | 0, k, hk => leastC_one hc hk
  | p + 1, k, hk => by
    obtain ⟨h1, h2, h3⟩ := seqm_is hc hs (dpF op sel c p k) (fun i => op (dpF op sel c p i) (c i k)) (k - 1)
    refine leastC_snoc hc (f := dpF op sel c p) (dp_least hc hs c p k hk) (fun m m1 m2 => dp_least hc hs c p m m1) ?_ h2 fun m m1 m2 => h3 m m1 (by omega)
    rcases h1 with h1 | ⟨j, j1, j2, j3⟩
    · exact .inl h1
    · exact .inr ⟨j, j1, by omega, j3⟩

end Go.Rx.Try
