import Derived.Test.YtibefcnnhbdcgaeFnNearLineD7
namespace Go.Rx.Try
open Go.Proofs
set_option maxRecDepth 100000
set_option maxHeartbeats 8000000
set_option linter.unusedSimpArgs false
set_option linter.unusedVariables false

theorem gd4_st {P : Program} {Qt : FuncId → List AV → Option AV} {base k : Nat} {A : Heap} {X : List Nat} {E : List (Nat × AV)} {S S' : Sig} {acc : List (List Nat × List Nat)} {prs : List (Nat × Nat)} {C : List (List Nat × List Nat) → Prop} {K : St → Prop} {r : List MI} {n : Nat} {v u : AV} {p x : MX} (hp : evE E p = some u) (hs : Stp A X E S (.st p x n) (Is v S')) (hk : GD4 P Qt base (k + 1) A X E S' (acc ++ [(vid u, vid u)]) prs r C K) : GD4 P Qt base k A X E S acc prs (⟨none, none, .st p x n⟩ :: r) C K := by
  refine ⟨fun s m hE hS hm => ?_⟩
  obtain ⟨v', S'', H', m', ⟨rfl, rfl⟩, h2, h3, h4, h5, h6⟩ := hs.stp s.τ s.H m (base + k) hE hS hm
  have hd0 : dstep P Qt (base + k) ⟨none, none, (.st p x n)⟩ s = mstep (base + k) s.τ s.H (.st p x n) := dstep_plain2 rfl
  have hf : foot s.τ (.st p x n) = vid u := by simp only [foot, ev_of hE hp]
  have ht : touch (base + k) s.τ (.st p x n) = vid u := by simp only [touch, ev_of hE hp]
  simp only [dopsC, hd0, h2, hf, ht]
  exact hk.g _ m' hE h3 (by omega)
/- a part of what a slice holds -/

theorem vals_sub {α : Type} {c : α → List AV} {k : Nat} (hc : Cels c k) {H : Heap} {v : AV} {n l : Nat} {L : List α} (hv : Vals H v k n (cellsK c L)) (hn : n = L.length) (hl : l ≤ n) : Vals H (subW v l n) k (n - l) (cellsK c (L.drop l)) := by
  have hbid : ∀ j, (subW v l n).bid = some j → v.bid = some j := by
    intro j hj
    cases v <;> first | exact hj | (simp [subW, AV.bid] at hj; done)
  have hcl : (cellsK c (L.drop l)).length = (n - l) * k := by rw [ck_len hc, List.length_drop, hn]
  cases v with
  | slice id off n' cap es =>
    have e1 : n' = n := hv.len
    have e2 : es = k := by
      rcases hv.esn with h | h
      · cases h
      · simpa [AV.es] using h
    subst e1; subst e2
    refine ⟨rfl, rfl, .inr rfl, hcl, ?_, fun j hj => hv.bid j (hbid j hj)⟩
    have hr := hv.row
    simp only [subW, Heap.row] at hr ⊢
    by_cases h0 : n' - l = 0
    · rw [if_pos h0]
      have : L.drop l = [] := List.drop_eq_nil_of_le (by omega)
      rw [this]; rfl
    · rw [if_neg (by omega)] at hr
      rw [if_neg h0]
      simp only [Heap.read] at hr ⊢
      split at hr
      · rename_i b hb
        split at hr
        · rename_i h1
          simp only [Option.some.injEq] at hr
          have hm : l * es + (n' - l) * es = n' * es := by rw [← Nat.add_mul]; congr 1; omega
          rw [if_pos (by omega), ← ck_drop hc, ← hr, List.drop_take, List.drop_drop, show n' * es - l * es = (n' - l) * es by omega]
        · cases hr
      · cases hr
  | nilSlice =>
    have e1 : 0 = n := hv.len
    subst e1
    have : L = [] := List.eq_nil_of_length_eq_zero hn.symm
    subst this
    have h0 : l = 0 := by omega
    subst h0
    exact hv
  | _ => exact absurd hv.sl (by simp [AV.isSlice])
/- the pairs of points, in their order -/

def pr1 (xs : List Int) (i k : Nat) : List (Nat × Nat) := if nth xs i ≠ nth xs k then [(i, k)] else []

def prI (xs : List Int) (i : Nat) : Nat → List (Nat × Nat) := catN fun m => pr1 xs i (i + 1 + m)

def prT (xs : List Int) (n : Nat) : Nat → List (Nat × Nat) := catN fun i => prI xs i (n - (i + 1))

theorem prI_len (xs : List Int) (i : Nat) : ∀ m, (prI xs i m).length ≤ m
  | 0 => Nat.le_refl _
  | m + 1 => by
    have := prI_len xs i m
    have h : (pr1 xs i (i + 1 + m)).length ≤ 1 := by unfold pr1; split <;> simp
    show (prI xs i m ++ pr1 xs i (i + 1 + m)).length ≤ m + 1
    rw [List.length_append]; omega

theorem prT_len (xs : List Int) (n : Nat) : ∀ i, (prT xs n i).length ≤ i * n
  | 0 => by simp [prT, catN]
  | i + 1 => by
    have h1 := prT_len xs n i
    have h2 := prI_len xs i (n - (i + 1))
    show (prT xs n i ++ prI xs i (n - (i + 1))).length ≤ (i + 1) * n
    rw [List.length_append, Nat.add_mul]; omega

theorem catN_mem {α : Type} {f : Nat → List α} {x : α} : ∀ {n : Nat}, x ∈ catN f n ↔ ∃ i, i < n ∧ x ∈ f i
  | 0 => by simp [catN]
  | n + 1 => by
    rw [catN, List.mem_append, catN_mem]
    constructor
    · rintro (⟨i, h1, h2⟩ | h)
      · exact ⟨i, by omega, h2⟩
      · exact ⟨n, by omega, h⟩
    · rintro ⟨i, h1, h2⟩
      rcases Nat.lt_or_ge i n with h3 | h3
      · exact .inl ⟨i, h3, h2⟩
      · rw [show i = n by omega] at h2; exact .inr h2

theorem prT_mem {xs : List Int} {n : Nat} {p : Nat × Nat} : p ∈ prT xs n n ↔ p.1 < p.2 ∧ p.2 < n ∧ nrP xs p := by
  unfold prT
  rw [catN_mem]
  constructor
  · rintro ⟨i, h1, h2⟩
    unfold prI at h2
    rw [catN_mem] at h2
    obtain ⟨m, h3, h4⟩ := h2
    unfold pr1 at h4
    split at h4
    · rename_i h5
      rw [List.mem_singleton] at h4
      subst h4
      exact ⟨by simp only; omega, by simp only; omega, h5⟩
    · cases h4
  · rintro ⟨h1, h2, h3⟩
    refine ⟨p.1, by omega, ?_⟩
    unfold prI
    rw [catN_mem]
    refine ⟨p.2 - (p.1 + 1), by omega, ?_⟩
    rw [show p.1 + 1 + (p.2 - (p.1 + 1)) = p.2 by omega, pr1, if_pos (show nth xs p.1 ≠ nth xs p.2 from h3)]
    exact List.mem_singleton.2 rfl
/- the first of the least -/

noncomputable def nrF (xs ys : List Int) (st : Option (Nat × Nat)) (p : Nat × Nat) : Option (Nat × Nat) := match st with
  | none => some p
  | some q => if nrR xs ys p < nrR xs ys q then some p else some q

theorem nrI_fold (xs ys : List Int) (i : Nat) (st : Option (Nat × Nat)) : ∀ m, nrI xs ys i st m = (prI xs i m).foldl (nrF xs ys) st
  | 0 => rfl
  | m + 1 => by
    rw [nrI, nrI_fold xs ys i st m]
    show _ = (prI xs i m ++ pr1 xs i (i + 1 + m)).foldl (nrF xs ys) st
    rw [List.foldl_append, pr1]
    generalize (prI xs i m).foldl (nrF xs ys) st = s
    by_cases h : nth xs i = nth xs (i + 1 + m)
    · rw [if_neg (fun h2 => h2 h), nrS_same (p := (i, i + 1 + m)) h]; rfl
    · rw [if_pos h]
      cases s with
      | none => rw [nrS_none (p := (i, i + 1 + m)) h]; rfl
      | some q => rw [nrS_some (p := (i, i + 1 + m)) h]; rfl

theorem nrT_fold (xs ys : List Int) : ∀ i, nrT xs ys i = (prT xs xs.length i).foldl (nrF xs ys) none
  | 0 => rfl
  | i + 1 => by
    rw [nrT, nrI_fold, nrT_fold xs ys i]
    show _ = (prT xs xs.length i ++ prI xs i (xs.length - (i + 1))).foldl (nrF xs ys) none
    rw [List.foldl_append]

def ftP (xs ys : List Int) (p : Nat × Nat) : Rat × Rat × Rat := (nrA xs ys p, nrB xs ys p, nrR xs ys p)

abbrev nthN (L : List (Nat × Nat)) (i : Nat) : Nat × Nat := nthA (0, 0) L i

theorem fold_lft (xs ys : List Int) {P : List (Nat × Nat)} : ∀ {k : Nat}, k < P.length → ∃ p ∈ P, (P.take (k + 1)).foldl (nrF xs ys) none = some p ∧ lfT (fun j => ftP xs ys (nthN P j)) k = ftP xs ys p
  | 0, h => by
    refine ⟨nthN P 0, ?_, ?_, rfl⟩
    · unfold nthN; rw [nthA_of h]; exact List.getElem_mem h
    · rw [List.take_add_one, List.getElem?_eq_getElem h]
      simp only [List.take_zero, Option.toList_some, List.nil_append, List.foldl_cons, List.foldl_nil, nrF]
      unfold nthN; rw [nthA_of h]
  | k + 1, h => by
    obtain ⟨p, hp, h1, h2⟩ := fold_lft xs ys (P := P) (k := k) (by omega)
    have hm : nthN P (k + 1) ∈ P := by unfold nthN; rw [nthA_of h]; exact List.getElem_mem h
    rw [List.take_add_one, List.getElem?_eq_getElem h, List.foldl_append, h1, lfT, h2]
    simp only [Option.toList_some, List.foldl_cons, List.foldl_nil, nrF]
    have e : P[k + 1] = nthN P (k + 1) := by unfold nthN; rw [nthA_of h]
    rw [e]
    by_cases h3 : nrR xs ys (nthN P (k + 1)) < nrR xs ys p
    · exact ⟨_, hm, by rw [if_pos h3], by rw [if_pos (show (ftP xs ys (nthN P (k + 1))).2.2 < (ftP xs ys p).2.2 from h3)]⟩
    · exact ⟨p, hp, by rw [if_neg h3], by rw [if_neg (show ¬ (ftP xs ys (nthN P (k + 1))).2.2 < (ftP xs ys p).2.2 from h3)]⟩

theorem Cloud.pairs {xs ys : List Int} (h : Cloud xs ys) : 0 < (prT xs xs.length xs.length).length := by
  obtain ⟨hp, i, h1, h2, h3⟩ := h
  have : (0, i) ∈ prT xs xs.length xs.length := prT_mem.2 ⟨by simp only; omega, h2, fun e => h3 e.symm⟩
  exact List.length_pos_of_mem this

abbrev nlSig (i4 i5 i6 i8 i9 : Nat) (w : AV) (xs ys : List Int) (i m : Nat) (u : AV) : Sig := [bx1 i9 u, ⟨.rw, u, 6, (prT xs xs.length i ++ prI xs i m).length, fts ((prT xs xs.length i ++ prI xs i m).map (ftP xs ys))⟩, bx1 i8 w, cel0 i6, cel0 i5, cel0 i4]

theorem implNearLine_ok {H : Heap} {a b : AV} {xs ys : List Int} (ha : Ints H a xs) (hb : Ints H b ys) (hl : xs.length ≤ 1000000000) (hl' : ys.length ≤ 1000000000) :
    ACalls Try.prog fn_impl_NearLine [a, b] H fun r H' => r = nrX xs ys ∧ H' = H := by
  refine ACalls.val ?_ (by unfold nrX valO; split <;> (try split) <;> rfl)
  refine code_impl_NearLine.go [.roI a xs.length xs, .roI b ys.length ys] ⟨⟨rfl, ha⟩, ⟨rfl, hb⟩, trivial⟩ (by simp) ?_
  unfold mc_impl_NearLine
  (repeat (first | with_reducible (first | refine go_nil ?_ | refine gk_seq ?_ | refine gc_seq ?_ | refine gc_reg ?_ | refine gc_skip ?_ | refine gk_block ?_ | refine gc_block ?_ | refine gc_exit ?_ | refine gc_ret ?_ | refine gk_seqret ?_ | refine gk_seqexit ?_ | refine gk_blockret ?_ | refine gk_out ?_ | refine gk_loopret ?_ | refine gk_loopexit ?_ | refine gq_nil ?_ | refine gd_nil ?_ | refine gc_scope ?_ | refine gk_scope ?_ | refine gk_scoper ?_ | refine gk_scopee ?_) | (with_reducible refine gc_drq ?_; intro _) | (with_reducible first | (refine gc_drw (h := ?_); intro _) | (refine gc_drw2 (h := ?_); intro _)) | (show GO _ _ _ _ _ (⟨some _, none, .call _ _⟩ :: _) _; first | (refine go_callp rfl code_impl_ValidCloud.callable (fun H hH => implValidCloud_ok (hH.ints (by exact Has.auto)) (hH.ints (by exact Has.auto)) (by omega) (by omega)) ?_)) | (show GO _ _ _ _ _ (⟨some _, none, _⟩ :: _) _; first | refine go_op (hk := ?_) | (refine go_nw (hk := ?_); intro u; try simp only [List.length_cons, List.length_nil, List.nil_append, Nat.zero_add]) | (refine go_np (hk := ?_); intro id)) | (show GQ _ _ _ _ _ _ _ (⟨some _, none, _⟩ :: _) _; first | refine gq_op (hk := ?_) | (refine gq_nw (hk := ?_); intro u; try simp only [List.length_cons, List.length_nil, List.nil_append, Nat.zero_add])) | (show GD _ _ _ _ _ _ _ (⟨some _, none, _⟩ :: _) _; first | refine gd_op (hk := ?_) | (refine gd_nw (hk := ?_); intro u; try simp only [List.length_cons, List.length_nil, List.nil_append, Nat.zero_add])) | (show GD2 _ _ _ _ _ _ _ _ _ _ _ _ _ _; first | refine gd2_nil rfl ?_ | refine gd2_op (hk := ?_) | (refine gd2_nw (hk := ?_); intro u; try simp only [List.length_cons, List.length_nil, List.nil_append, Nat.zero_add]) | refine gd2_l (hk := ?_) | refine gd2_lp (hk := ?_) | (refine gd2_newp (hk := ?_); intro id) | refine gd2_st (hk := ?_) | (refine gd2_bsl rfl rfl ?_; intro u; try simp only [List.length_cons, List.length_nil, List.nil_append, Nat.zero_add]) | (refine gd2_a (hk := ?_); intro u; try simp only [List.length_cons, List.length_nil, List.nil_append, Nat.zero_add])) | (show GO _ _ _ _ _ (⟨none, none, _⟩ :: _) _; refine go_st (hk := ?_)) | (show GD _ _ _ _ _ _ _ (⟨none, none, _⟩ :: _) _; refine gd_st (hk := ?_)) | (show GO _ _ _ _ _ (⟨_, some _, _⟩ :: _) _; first | refine go_in (hk := ?_) | refine go_out (hk := ?_) | refine go_void (hk := ?_)) | (show GQ _ _ _ _ _ _ _ (⟨_, some _, _⟩ :: _) _; first | refine gq_in (hk := ?_) | refine gq_out (hk := ?_) | refine gq_void (hk := ?_)) | (show GK _ _ _ _ (blockK _ _ _); refine gk_past rfl ?_) | (show GC _ _ _ _ _ (.cond _ _ _) _; first | refine gc_yes (h1 := ?_) | refine gc_no (h1 := ?_))))
  refine gc_cond rfl (fun h => ?_) (fun h => ?_)
  · (repeat (first | with_reducible (first | refine go_nil ?_ | refine gk_seq ?_ | refine gc_seq ?_ | refine gc_reg ?_ | refine gc_skip ?_ | refine gk_block ?_ | refine gc_block ?_ | refine gc_exit ?_ | refine gc_ret ?_ | refine gk_seqret ?_ | refine gk_seqexit ?_ | refine gk_blockret ?_ | refine gk_out ?_ | refine gk_loopret ?_ | refine gk_loopexit ?_ | refine gq_nil ?_ | refine gd_nil ?_ | refine gc_scope ?_ | refine gk_scope ?_ | refine gk_scoper ?_ | refine gk_scopee ?_) | (with_reducible refine gc_drq ?_; intro _) | (with_reducible first | (refine gc_drw (h := ?_); intro _) | (refine gc_drw2 (h := ?_); intro _)) | (show GO _ _ _ _ _ (⟨some _, none, .call _ _⟩ :: _) _; first | (refine go_callp rfl code_impl_ValidCloud.callable (fun H hH => implValidCloud_ok (hH.ints (by exact Has.auto)) (hH.ints (by exact Has.auto)) (by omega) (by omega)) ?_)) | (show GO _ _ _ _ _ (⟨some _, none, _⟩ :: _) _; first | refine go_op (hk := ?_) | (refine go_nw (hk := ?_); intro u; try simp only [List.length_cons, List.length_nil, List.nil_append, Nat.zero_add]) | (refine go_np (hk := ?_); intro id)) | (show GQ _ _ _ _ _ _ _ (⟨some _, none, _⟩ :: _) _; first | refine gq_op (hk := ?_) | (refine gq_nw (hk := ?_); intro u; try simp only [List.length_cons, List.length_nil, List.nil_append, Nat.zero_add])) | (show GD _ _ _ _ _ _ _ (⟨some _, none, _⟩ :: _) _; first | refine gd_op (hk := ?_) | (refine gd_nw (hk := ?_); intro u; try simp only [List.length_cons, List.length_nil, List.nil_append, Nat.zero_add])) | (show GD2 _ _ _ _ _ _ _ _ _ _ _ _ _ _; first | refine gd2_nil rfl ?_ | refine gd2_op (hk := ?_) | (refine gd2_nw (hk := ?_); intro u; try simp only [List.length_cons, List.length_nil, List.nil_append, Nat.zero_add]) | refine gd2_l (hk := ?_) | refine gd2_lp (hk := ?_) | (refine gd2_newp (hk := ?_); intro id) | refine gd2_st (hk := ?_) | (refine gd2_bsl rfl rfl ?_; intro u; try simp only [List.length_cons, List.length_nil, List.nil_append, Nat.zero_add]) | (refine gd2_a (hk := ?_); intro u; try simp only [List.length_cons, List.length_nil, List.nil_append, Nat.zero_add])) | (show GO _ _ _ _ _ (⟨none, none, _⟩ :: _) _; refine go_st (hk := ?_)) | (show GD _ _ _ _ _ _ _ (⟨none, none, _⟩ :: _) _; refine gd_st (hk := ?_)) | (show GO _ _ _ _ _ (⟨_, some _, _⟩ :: _) _; first | refine go_in (hk := ?_) | refine go_out (hk := ?_) | refine go_void (hk := ?_)) | (show GQ _ _ _ _ _ _ _ (⟨_, some _, _⟩ :: _) _; first | refine gq_in (hk := ?_) | refine gq_out (hk := ?_) | refine gq_void (hk := ?_)) | (show GK _ _ _ _ (blockK _ _ _); refine gk_past rfl ?_) | (show GC _ _ _ _ _ (.cond _ _ _) _; first | refine gc_yes (h1 := ?_) | refine gc_no (h1 := ?_))))
    exact gk_rets (rvs_c rfl (by exact Sel.auto) rfl rfl (rvs_c rfl (by exact Sel.auto) rfl rfl (rvs_c rfl (by exact Sel.auto) rfl rfl (rvs_t rfl rvs_nil)))) fun H' hH => ⟨by rw [nrX, if_neg h]; rfl, hH.leE⟩
  have hc : Cloud xs ys := Decidable.not_not.1 h
  have hp := hc.1
  have h7 := hc.1.2.2
  have hlen := hc.1.2.1
  have hpos := hc.pairs
  have hpl := prT_len xs xs.length xs.length
  have hii : xs.length * xs.length ≤ 7 * 7 := Nat.mul_le_mul (by omega) (by omega)
  (repeat (first | with_reducible (first | refine go_nil ?_ | refine gk_seq ?_ | refine gc_seq ?_ | refine gc_reg ?_ | refine gc_skip ?_ | refine gk_block ?_ | refine gc_block ?_ | refine gc_exit ?_ | refine gc_ret ?_ | refine gk_seqret ?_ | refine gk_seqexit ?_ | refine gk_blockret ?_ | refine gk_out ?_ | refine gk_loopret ?_ | refine gk_loopexit ?_ | refine gq_nil ?_ | refine gd_nil ?_ | refine gc_scope ?_ | refine gk_scope ?_ | refine gk_scoper ?_ | refine gk_scopee ?_) | (with_reducible refine gc_drq ?_; intro _) | (with_reducible first | (refine gc_drw (h := ?_); intro _) | (refine gc_drw2 (h := ?_); intro _)) | (show GO _ _ _ _ _ (⟨some _, none, .call _ _⟩ :: _) _; first | (refine go_callp rfl code_impl_ValidCloud.callable (fun H hH => implValidCloud_ok (hH.ints (by exact Has.auto)) (hH.ints (by exact Has.auto)) (by omega) (by omega)) ?_)) | (show GO _ _ _ _ _ (⟨some _, none, _⟩ :: _) _; first | refine go_op (hk := ?_) | (refine go_nw (hk := ?_); intro u; try simp only [List.length_cons, List.length_nil, List.nil_append, Nat.zero_add]) | (refine go_np (hk := ?_); intro id)) | (show GQ _ _ _ _ _ _ _ (⟨some _, none, _⟩ :: _) _; first | refine gq_op (hk := ?_) | (refine gq_nw (hk := ?_); intro u; try simp only [List.length_cons, List.length_nil, List.nil_append, Nat.zero_add])) | (show GD _ _ _ _ _ _ _ (⟨some _, none, _⟩ :: _) _; first | refine gd_op (hk := ?_) | (refine gd_nw (hk := ?_); intro u; try simp only [List.length_cons, List.length_nil, List.nil_append, Nat.zero_add])) | (show GD2 _ _ _ _ _ _ _ _ _ _ _ _ _ _; first | refine gd2_nil rfl ?_ | refine gd2_op (hk := ?_) | (refine gd2_nw (hk := ?_); intro u; try simp only [List.length_cons, List.length_nil, List.nil_append, Nat.zero_add]) | refine gd2_l (hk := ?_) | refine gd2_lp (hk := ?_) | (refine gd2_newp (hk := ?_); intro id) | refine gd2_st (hk := ?_) | (refine gd2_bsl rfl rfl ?_; intro u; try simp only [List.length_cons, List.length_nil, List.nil_append, Nat.zero_add]) | (refine gd2_a (hk := ?_); intro u; try simp only [List.length_cons, List.length_nil, List.nil_append, Nat.zero_add])) | (show GO _ _ _ _ _ (⟨none, none, _⟩ :: _) _; refine go_st (hk := ?_)) | (show GD _ _ _ _ _ _ _ (⟨none, none, _⟩ :: _) _; refine gd_st (hk := ?_)) | (show GO _ _ _ _ _ (⟨_, some _, _⟩ :: _) _; first | refine go_in (hk := ?_) | refine go_out (hk := ?_) | refine go_void (hk := ?_)) | (show GQ _ _ _ _ _ _ _ (⟨_, some _, _⟩ :: _) _; first | refine gq_in (hk := ?_) | refine gq_out (hk := ?_) | refine gq_void (hk := ?_)) | (show GK _ _ _ _ (blockK _ _ _); refine gk_past rfl ?_) | (show GC _ _ _ _ _ (.cond _ _ _) _; first | refine gc_yes (h1 := ?_) | refine gc_no (h1 := ?_))))
  rename_i i4 i5
  revert id; intro i6
  refine go_calln rfl code_impl_pointsOf.callable (fun H hH => pointsOf_ok (hH.ints (by exact Has.auto)) (hH.ints (by exact Has.auto)) hlen (by omega)) ?_
  intro w
  refine go_freeze (v := w) (by exact Sel.auto) ?_
  (repeat (first | with_reducible (first | refine go_nil ?_ | refine gk_seq ?_ | refine gc_seq ?_ | refine gc_reg ?_ | refine gc_skip ?_ | refine gk_block ?_ | refine gc_block ?_ | refine gc_exit ?_ | refine gc_ret ?_ | refine gk_seqret ?_ | refine gk_seqexit ?_ | refine gk_blockret ?_ | refine gk_out ?_ | refine gk_loopret ?_ | refine gk_loopexit ?_ | refine gq_nil ?_ | refine gd_nil ?_ | refine gc_scope ?_ | refine gk_scope ?_ | refine gk_scoper ?_ | refine gk_scopee ?_) | (with_reducible refine gc_drq ?_; intro _) | (with_reducible first | (refine gc_drw (h := ?_); intro _) | (refine gc_drw2 (h := ?_); intro _)) | (show GO _ _ _ _ _ (⟨some _, none, .call _ _⟩ :: _) _; first | (refine go_callp rfl code_impl_ValidCloud.callable (fun H hH => implValidCloud_ok (hH.ints (by exact Has.auto)) (hH.ints (by exact Has.auto)) (by omega) (by omega)) ?_)) | (show GO _ _ _ _ _ (⟨some _, none, _⟩ :: _) _; first | refine go_op (hk := ?_) | (refine go_nw (hk := ?_); intro u; try simp only [List.length_cons, List.length_nil, List.nil_append, Nat.zero_add]) | (refine go_np (hk := ?_); intro id)) | (show GQ _ _ _ _ _ _ _ (⟨some _, none, _⟩ :: _) _; first | refine gq_op (hk := ?_) | (refine gq_nw (hk := ?_); intro u; try simp only [List.length_cons, List.length_nil, List.nil_append, Nat.zero_add])) | (show GD _ _ _ _ _ _ _ (⟨some _, none, _⟩ :: _) _; first | refine gd_op (hk := ?_) | (refine gd_nw (hk := ?_); intro u; try simp only [List.length_cons, List.length_nil, List.nil_append, Nat.zero_add])) | (show GD2 _ _ _ _ _ _ _ _ _ _ _ _ _ _; first | refine gd2_nil rfl ?_ | refine gd2_op (hk := ?_) | (refine gd2_nw (hk := ?_); intro u; try simp only [List.length_cons, List.length_nil, List.nil_append, Nat.zero_add]) | refine gd2_l (hk := ?_) | refine gd2_lp (hk := ?_) | (refine gd2_newp (hk := ?_); intro id) | refine gd2_st (hk := ?_) | (refine gd2_bsl rfl rfl ?_; intro u; try simp only [List.length_cons, List.length_nil, List.nil_append, Nat.zero_add]) | (refine gd2_a (hk := ?_); intro u; try simp only [List.length_cons, List.length_nil, List.nil_append, Nat.zero_add])) | (show GO _ _ _ _ _ (⟨none, none, _⟩ :: _) _; refine go_st (hk := ?_)) | (show GD _ _ _ _ _ _ _ (⟨none, none, _⟩ :: _) _; refine gd_st (hk := ?_)) | (show GO _ _ _ _ _ (⟨_, some _, _⟩ :: _) _; first | refine go_in (hk := ?_) | refine go_out (hk := ?_) | refine go_void (hk := ?_)) | (show GQ _ _ _ _ _ _ _ (⟨_, some _, _⟩ :: _) _; first | refine gq_in (hk := ?_) | refine gq_out (hk := ?_) | refine gq_void (hk := ?_)) | (show GK _ _ _ _ (blockK _ _ _); refine gk_past rfl ?_) | (show GC _ _ _ _ _ (.cond _ _ _) _; first | refine gc_yes (h1 := ?_) | refine gc_no (h1 := ?_))))
  revert id; intro i8
  refine go_is0 rfl (stp_stv rfl rfl (by exact Has.auto) (by exact Sel.auto)) ?_
  (repeat (first | with_reducible (first | refine go_nil ?_ | refine gk_seq ?_ | refine gc_seq ?_ | refine gc_reg ?_ | refine gc_skip ?_ | refine gk_block ?_ | refine gc_block ?_ | refine gc_exit ?_ | refine gc_ret ?_ | refine gk_seqret ?_ | refine gk_seqexit ?_ | refine gk_blockret ?_ | refine gk_out ?_ | refine gk_loopret ?_ | refine gk_loopexit ?_ | refine gq_nil ?_ | refine gd_nil ?_ | refine gc_scope ?_ | refine gk_scope ?_ | refine gk_scoper ?_ | refine gk_scopee ?_) | (with_reducible refine gc_drq ?_; intro _) | (with_reducible first | (refine gc_drw (h := ?_); intro _) | (refine gc_drw2 (h := ?_); intro _)) | (show GO _ _ _ _ _ (⟨some _, none, .call _ _⟩ :: _) _; first | (refine go_callp rfl code_impl_ValidCloud.callable (fun H hH => implValidCloud_ok (hH.ints (by exact Has.auto)) (hH.ints (by exact Has.auto)) (by omega) (by omega)) ?_)) | (show GO _ _ _ _ _ (⟨some _, none, _⟩ :: _) _; first | refine go_op (hk := ?_) | (refine go_nw (hk := ?_); intro u; try simp only [List.length_cons, List.length_nil, List.nil_append, Nat.zero_add]) | (refine go_np (hk := ?_); intro id)) | (show GQ _ _ _ _ _ _ _ (⟨some _, none, _⟩ :: _) _; first | refine gq_op (hk := ?_) | (refine gq_nw (hk := ?_); intro u; try simp only [List.length_cons, List.length_nil, List.nil_append, Nat.zero_add])) | (show GD _ _ _ _ _ _ _ (⟨some _, none, _⟩ :: _) _; first | refine gd_op (hk := ?_) | (refine gd_nw (hk := ?_); intro u; try simp only [List.length_cons, List.length_nil, List.nil_append, Nat.zero_add])) | (show GD2 _ _ _ _ _ _ _ _ _ _ _ _ _ _; first | refine gd2_nil rfl ?_ | refine gd2_op (hk := ?_) | (refine gd2_nw (hk := ?_); intro u; try simp only [List.length_cons, List.length_nil, List.nil_append, Nat.zero_add]) | refine gd2_l (hk := ?_) | refine gd2_lp (hk := ?_) | (refine gd2_newp (hk := ?_); intro id) | refine gd2_st (hk := ?_) | (refine gd2_bsl rfl rfl ?_; intro u; try simp only [List.length_cons, List.length_nil, List.nil_append, Nat.zero_add]) | (refine gd2_a (hk := ?_); intro u; try simp only [List.length_cons, List.length_nil, List.nil_append, Nat.zero_add])) | (show GO _ _ _ _ _ (⟨none, none, _⟩ :: _) _; refine go_st (hk := ?_)) | (show GD _ _ _ _ _ _ _ (⟨none, none, _⟩ :: _) _; refine gd_st (hk := ?_)) | (show GO _ _ _ _ _ (⟨_, some _, _⟩ :: _) _; first | refine go_in (hk := ?_) | refine go_out (hk := ?_) | refine go_void (hk := ?_)) | (show GQ _ _ _ _ _ _ _ (⟨_, some _, _⟩ :: _) _; first | refine gq_in (hk := ?_) | refine gq_out (hk := ?_) | refine gq_void (hk := ?_)) | (show GK _ _ _ _ (blockK _ _ _); refine gk_past rfl ?_) | (show GC _ _ _ _ _ (.cond _ _ _) _; first | refine gc_yes (h1 := ?_) | refine gc_no (h1 := ?_))))
  revert id; intro i9
  refine go_nilK 6 ?_
  (repeat (first | with_reducible (first | refine go_nil ?_ | refine gk_seq ?_ | refine gc_seq ?_ | refine gc_reg ?_ | refine gc_skip ?_ | refine gk_block ?_ | refine gc_block ?_ | refine gc_exit ?_ | refine gc_ret ?_ | refine gk_seqret ?_ | refine gk_seqexit ?_ | refine gk_blockret ?_ | refine gk_out ?_ | refine gk_loopret ?_ | refine gk_loopexit ?_ | refine gq_nil ?_ | refine gd_nil ?_ | refine gc_scope ?_ | refine gk_scope ?_ | refine gk_scoper ?_ | refine gk_scopee ?_) | (with_reducible refine gc_drq ?_; intro _) | (with_reducible first | (refine gc_drw (h := ?_); intro _) | (refine gc_drw2 (h := ?_); intro _)) | (show GO _ _ _ _ _ (⟨some _, none, .call _ _⟩ :: _) _; first | (refine go_callp rfl code_impl_ValidCloud.callable (fun H hH => implValidCloud_ok (hH.ints (by exact Has.auto)) (hH.ints (by exact Has.auto)) (by omega) (by omega)) ?_)) | (show GO _ _ _ _ _ (⟨some _, none, _⟩ :: _) _; first | refine go_op (hk := ?_) | (refine go_nw (hk := ?_); intro u; try simp only [List.length_cons, List.length_nil, List.nil_append, Nat.zero_add]) | (refine go_np (hk := ?_); intro id)) | (show GQ _ _ _ _ _ _ _ (⟨some _, none, _⟩ :: _) _; first | refine gq_op (hk := ?_) | (refine gq_nw (hk := ?_); intro u; try simp only [List.length_cons, List.length_nil, List.nil_append, Nat.zero_add])) | (show GD _ _ _ _ _ _ _ (⟨some _, none, _⟩ :: _) _; first | refine gd_op (hk := ?_) | (refine gd_nw (hk := ?_); intro u; try simp only [List.length_cons, List.length_nil, List.nil_append, Nat.zero_add])) | (show GD2 _ _ _ _ _ _ _ _ _ _ _ _ _ _; first | refine gd2_nil rfl ?_ | refine gd2_op (hk := ?_) | (refine gd2_nw (hk := ?_); intro u; try simp only [List.length_cons, List.length_nil, List.nil_append, Nat.zero_add]) | refine gd2_l (hk := ?_) | refine gd2_lp (hk := ?_) | (refine gd2_newp (hk := ?_); intro id) | refine gd2_st (hk := ?_) | (refine gd2_bsl rfl rfl ?_; intro u; try simp only [List.length_cons, List.length_nil, List.nil_append, Nat.zero_add]) | (refine gd2_a (hk := ?_); intro u; try simp only [List.length_cons, List.length_nil, List.nil_append, Nat.zero_add])) | (show GO _ _ _ _ _ (⟨none, none, _⟩ :: _) _; refine go_st (hk := ?_)) | (show GD _ _ _ _ _ _ _ (⟨none, none, _⟩ :: _) _; refine gd_st (hk := ?_)) | (show GO _ _ _ _ _ (⟨_, some _, _⟩ :: _) _; first | refine go_in (hk := ?_) | refine go_out (hk := ?_) | refine go_void (hk := ?_)) | (show GQ _ _ _ _ _ _ _ (⟨_, some _, _⟩ :: _) _; first | refine gq_in (hk := ?_) | refine gq_out (hk := ?_) | refine gq_void (hk := ?_)) | (show GK _ _ _ _ (blockK _ _ _); refine gk_past rfl ?_) | (show GC _ _ _ _ _ (.cond _ _ _) _; first | refine gc_yes (h1 := ?_) | refine gc_no (h1 := ?_))))
  refine go_callg rfl code_impl_sideBySide.callable (fun H hH => sideBySide_ok hH (w := w) (by exact Has.auto)) ?_
  intro g hg
  (repeat (first | with_reducible (first | refine go_nil ?_ | refine gk_seq ?_ | refine gc_seq ?_ | refine gc_reg ?_ | refine gc_skip ?_ | refine gk_block ?_ | refine gc_block ?_ | refine gc_exit ?_ | refine gc_ret ?_ | refine gk_seqret ?_ | refine gk_seqexit ?_ | refine gk_blockret ?_ | refine gk_out ?_ | refine gk_loopret ?_ | refine gk_loopexit ?_ | refine gq_nil ?_ | refine gd_nil ?_ | refine gc_scope ?_ | refine gk_scope ?_ | refine gk_scoper ?_ | refine gk_scopee ?_) | (with_reducible refine gc_drq ?_; intro _) | (with_reducible first | (refine gc_drw (h := ?_); intro _) | (refine gc_drw2 (h := ?_); intro _)) | (show GO _ _ _ _ _ (⟨some _, none, .call _ _⟩ :: _) _; first | (refine go_callp rfl code_impl_ValidCloud.callable (fun H hH => implValidCloud_ok (hH.ints (by exact Has.auto)) (hH.ints (by exact Has.auto)) (by omega) (by omega)) ?_)) | (show GO _ _ _ _ _ (⟨some _, none, _⟩ :: _) _; first | refine go_op (hk := ?_) | (refine go_nw (hk := ?_); intro u; try simp only [List.length_cons, List.length_nil, List.nil_append, Nat.zero_add]) | (refine go_np (hk := ?_); intro id)) | (show GQ _ _ _ _ _ _ _ (⟨some _, none, _⟩ :: _) _; first | refine gq_op (hk := ?_) | (refine gq_nw (hk := ?_); intro u; try simp only [List.length_cons, List.length_nil, List.nil_append, Nat.zero_add])) | (show GD _ _ _ _ _ _ _ (⟨some _, none, _⟩ :: _) _; first | refine gd_op (hk := ?_) | (refine gd_nw (hk := ?_); intro u; try simp only [List.length_cons, List.length_nil, List.nil_append, Nat.zero_add])) | (show GD2 _ _ _ _ _ _ _ _ _ _ _ _ _ _; first | refine gd2_nil rfl ?_ | refine gd2_op (hk := ?_) | (refine gd2_nw (hk := ?_); intro u; try simp only [List.length_cons, List.length_nil, List.nil_append, Nat.zero_add]) | refine gd2_l (hk := ?_) | refine gd2_lp (hk := ?_) | (refine gd2_newp (hk := ?_); intro id) | refine gd2_st (hk := ?_) | (refine gd2_bsl rfl rfl ?_; intro u; try simp only [List.length_cons, List.length_nil, List.nil_append, Nat.zero_add]) | (refine gd2_a (hk := ?_); intro u; try simp only [List.length_cons, List.length_nil, List.nil_append, Nat.zero_add])) | (show GO _ _ _ _ _ (⟨none, none, _⟩ :: _) _; refine go_st (hk := ?_)) | (show GD _ _ _ _ _ _ _ (⟨none, none, _⟩ :: _) _; refine gd_st (hk := ?_)) | (show GO _ _ _ _ _ (⟨_, some _, _⟩ :: _) _; first | refine go_in (hk := ?_) | refine go_out (hk := ?_) | refine go_void (hk := ?_)) | (show GQ _ _ _ _ _ _ _ (⟨_, some _, _⟩ :: _) _; first | refine gq_in (hk := ?_) | refine gq_out (hk := ?_) | refine gq_void (hk := ?_)) | (show GK _ _ _ _ (blockK _ _ _); refine gk_past rfl ?_) | (show GC _ _ _ _ _ (.cond _ _ _) _; first | refine gc_yes (h1 := ?_) | refine gc_no (h1 := ?_))))
  refine gc_rfuncE (ι := Nat × Nat) (γ := AV) (f := fn_impl_sideBySide_1) (caps := [.ptr g 0]) (fun t u => bx1 g w :: roP w xs.length (ptL xs ys) :: nlSig i4 i5 i6 i8 i9 w xs ys t.1 t.2 u) (fun s t vs => ∃ i m, s = (i, m) ∧ t = (i, m + 1) ∧ i + 1 + m < xs.length ∧ (nthP (ptL xs ys) i).1 ≠ (nthP (ptL xs ys) (i + 1 + m)).1 ∧ vs = [pnV (nthP (ptL xs ys) i), pnV (nthP (ptL xs ys) (i + 1 + m))]) (0, 0) (xs.length, 0) .nilSlice rfl code_impl_sideBySide_1.callable (by exact Sub.auto) ?_ ?_ ?_
  · intro A' yd H hy hS0
    refine sideBySide1_ok (L := ptL xs ys) (ptL_len _ _) (by omega) (nlSig i4 i5 i6 i8 i9 w xs ys) .nilSlice (fun i hi => ?_) (fun i m hi he => ?_) (fun i m hi hne F z H' hH' => hy (i, m) (i, m + 1) _ ⟨i, m, rfl, rfl, hi, hne, rfl⟩ F z H' hH') hS0
    · funext u
      unfold nlSig
      rw [show prT xs xs.length (i + 1) ++ prI xs (i + 1) 0 = prT xs xs.length i ++ prI xs i (xs.length - (i + 1)) from List.append_nil _]
    · funext u
      unfold nlSig
      rw [ptL_nth (by omega), ptL_nth (by omega)] at he
      rw [show prI xs i (m + 1) = prI xs i m from by
        show prI xs i m ++ pr1 xs i (i + 1 + m) = _
        rw [pr1, if_neg (fun h => h he), List.append_nil]]
  · rintro s t vs ⟨i, m, rfl, rfl, hi, hne, rfl⟩
    refine ⟨rfl, fun F u ob1 ob2 Q1 Q2 g1 g2 => ?_⟩
    rw [ptL_nth (by omega), ptL_nth (by omega)] at hne
    rw [ptL_nth (by omega), ptL_nth (by omega)]
    simp only at hne
    have b1 := prT_len xs xs.length i
    have b2 := prI_len xs i m
    have b3 : i * xs.length ≤ 7 * 7 := Nat.mul_le_mul (by omega) (by omega)
    have el : prT xs xs.length i ++ prI xs i (m + 1) = prT xs xs.length i ++ prI xs i m ++ [(i, i + 1 + m)] := by
      show prT xs xs.length i ++ (prI xs i m ++ pr1 xs i (i + 1 + m)) = _
      rw [pr1, if_pos hne, List.append_assoc]
    obtain ⟨D, d, f, hln⟩ := th_fd (pts12 hp (i := i) (by omega)) (pts12 hp (i := i + 1 + m) (by omega)) hne
    have ef : ftP xs ys (i, i + 1 + m) = (thS (nth xs i, nth ys i) (nth xs (i + 1 + m), nth ys (i + 1 + m)), thH (nth xs i, nth ys i) (nth xs (i + 1 + m), nth ys (i + 1 + m)), nrC xs ys (thS (nth xs i, nth ys i) (nth xs (i + 1 + m), nth ys (i + 1 + m))) (thH (nth xs i, nth ys i) (nth xs (i + 1 + m), nth ys (i + 1 + m))) xs.length) := rfl
    simp only [nlSig, List.cons_append, List.nil_append] at g2 ⊢
    (repeat (first | with_reducible (first | refine go_nil ?_ | refine gk_seq ?_ | refine gc_seq ?_ | refine gc_reg ?_ | refine gc_skip ?_ | refine gk_block ?_ | refine gc_block ?_ | refine gc_exit ?_ | refine gc_ret ?_ | refine gk_seqret ?_ | refine gk_seqexit ?_ | refine gk_blockret ?_ | refine gk_out ?_ | refine gk_loopret ?_ | refine gk_loopexit ?_ | refine gq_nil ?_ | refine gd_nil ?_ | refine gc_scope ?_ | refine gk_scope ?_ | refine gk_scoper ?_ | refine gk_scopee ?_) | (with_reducible refine gc_drq ?_; intro _) | (with_reducible first | (refine gc_drw (h := ?_); intro _) | (refine gc_drw2 (h := ?_); intro _)) | (show GO _ _ _ _ _ (⟨some _, none, .call _ _⟩ :: _) _; first | (refine go_callp rfl code_impl_ValidCloud.callable (fun H hH => implValidCloud_ok (hH.ints (by exact Has.auto)) (hH.ints (by exact Has.auto)) (by omega) (by omega)) ?_)) | (show GO _ _ _ _ _ (⟨some _, none, _⟩ :: _) _; first | refine go_op (hk := ?_) | (refine go_nw (hk := ?_); intro u; try simp only [List.length_cons, List.length_nil, List.nil_append, Nat.zero_add]) | (refine go_np (hk := ?_); intro id)) | (show GQ _ _ _ _ _ _ _ (⟨some _, none, _⟩ :: _) _; first | refine gq_op (hk := ?_) | (refine gq_nw (hk := ?_); intro u; try simp only [List.length_cons, List.length_nil, List.nil_append, Nat.zero_add])) | (show GD _ _ _ _ _ _ _ (⟨some _, none, _⟩ :: _) _; first | refine gd_op (hk := ?_) | (refine gd_nw (hk := ?_); intro u; try simp only [List.length_cons, List.length_nil, List.nil_append, Nat.zero_add])) | (show GD2 _ _ _ _ _ _ _ _ _ _ _ _ _ _; first | refine gd2_nil rfl ?_ | refine gd2_op (hk := ?_) | (refine gd2_nw (hk := ?_); intro u; try simp only [List.length_cons, List.length_nil, List.nil_append, Nat.zero_add]) | refine gd2_l (hk := ?_) | refine gd2_lp (hk := ?_) | (refine gd2_newp (hk := ?_); intro id) | refine gd2_st (hk := ?_) | (refine gd2_bsl rfl rfl ?_; intro u; try simp only [List.length_cons, List.length_nil, List.nil_append, Nat.zero_add]) | (refine gd2_a (hk := ?_); intro u; try simp only [List.length_cons, List.length_nil, List.nil_append, Nat.zero_add])) | (show GO _ _ _ _ _ (⟨none, none, _⟩ :: _) _; refine go_st (hk := ?_)) | (show GD _ _ _ _ _ _ _ (⟨none, none, _⟩ :: _) _; refine gd_st (hk := ?_)) | (show GO _ _ _ _ _ (⟨_, some _, _⟩ :: _) _; first | refine go_in (hk := ?_) | refine go_out (hk := ?_) | refine go_void (hk := ?_)) | (show GQ _ _ _ _ _ _ _ (⟨_, some _, _⟩ :: _) _; first | refine gq_in (hk := ?_) | refine gq_out (hk := ?_) | refine gq_void (hk := ?_)) | (show GK _ _ _ _ (blockK _ _ _); refine gk_past rfl ?_) | (show GC _ _ _ _ _ (.cond _ _ _) _; first | refine gc_yes (h1 := ?_) | refine gc_no (h1 := ?_))))
    rename_i i10
    revert id; intro i11
    refine g1 _ _ ?_
    (repeat (first | with_reducible (first | refine go_nil ?_ | refine gk_seq ?_ | refine gc_seq ?_ | refine gc_reg ?_ | refine gc_skip ?_ | refine gk_block ?_ | refine gc_block ?_ | refine gc_exit ?_ | refine gc_ret ?_ | refine gk_seqret ?_ | refine gk_seqexit ?_ | refine gk_blockret ?_ | refine gk_out ?_ | refine gk_loopret ?_ | refine gk_loopexit ?_ | refine gq_nil ?_ | refine gd_nil ?_ | refine gc_scope ?_ | refine gk_scope ?_ | refine gk_scoper ?_ | refine gk_scopee ?_) | (with_reducible refine gc_drq ?_; intro _) | (with_reducible first | (refine gc_drw (h := ?_); intro _) | (refine gc_drw2 (h := ?_); intro _)) | (show GO _ _ _ _ _ (⟨some _, none, .call _ _⟩ :: _) _; first | (refine go_callp rfl code_impl_ValidCloud.callable (fun H hH => implValidCloud_ok (hH.ints (by exact Has.auto)) (hH.ints (by exact Has.auto)) (by omega) (by omega)) ?_)) | (show GO _ _ _ _ _ (⟨some _, none, _⟩ :: _) _; first | refine go_op (hk := ?_) | (refine go_nw (hk := ?_); intro u; try simp only [List.length_cons, List.length_nil, List.nil_append, Nat.zero_add]) | (refine go_np (hk := ?_); intro id)) | (show GQ _ _ _ _ _ _ _ (⟨some _, none, _⟩ :: _) _; first | refine gq_op (hk := ?_) | (refine gq_nw (hk := ?_); intro u; try simp only [List.length_cons, List.length_nil, List.nil_append, Nat.zero_add])) | (show GD _ _ _ _ _ _ _ (⟨some _, none, _⟩ :: _) _; first | refine gd_op (hk := ?_) | (refine gd_nw (hk := ?_); intro u; try simp only [List.length_cons, List.length_nil, List.nil_append, Nat.zero_add])) | (show GD2 _ _ _ _ _ _ _ _ _ _ _ _ _ _; first | refine gd2_nil rfl ?_ | refine gd2_op (hk := ?_) | (refine gd2_nw (hk := ?_); intro u; try simp only [List.length_cons, List.length_nil, List.nil_append, Nat.zero_add]) | refine gd2_l (hk := ?_) | refine gd2_lp (hk := ?_) | (refine gd2_newp (hk := ?_); intro id) | refine gd2_st (hk := ?_) | (refine gd2_bsl rfl rfl ?_; intro u; try simp only [List.length_cons, List.length_nil, List.nil_append, Nat.zero_add]) | (refine gd2_a (hk := ?_); intro u; try simp only [List.length_cons, List.length_nil, List.nil_append, Nat.zero_add])) | (show GO _ _ _ _ _ (⟨none, none, _⟩ :: _) _; refine go_st (hk := ?_)) | (show GD _ _ _ _ _ _ _ (⟨none, none, _⟩ :: _) _; refine gd_st (hk := ?_)) | (show GO _ _ _ _ _ (⟨_, some _, _⟩ :: _) _; first | refine go_in (hk := ?_) | refine go_out (hk := ?_) | refine go_void (hk := ?_)) | (show GQ _ _ _ _ _ _ _ (⟨_, some _, _⟩ :: _) _; first | refine gq_in (hk := ?_) | refine gq_out (hk := ?_) | refine gq_void (hk := ?_)) | (show GK _ _ _ _ (blockK _ _ _); refine gk_past rfl ?_) | (show GC _ _ _ _ _ (.cond _ _ _) _; first | refine gc_yes (h1 := ?_) | refine gc_no (h1 := ?_))))
    refine gc_drw2m (qtTab [(fn_impl_through, dThrough), (fn_impl_fitOf, dOne [lnV (thS (nth xs i, nth ys i) (nth xs (i + 1 + m), nth ys (i + 1 + m))) (thH (nth xs i, nth ys i) (nth xs (i + 1 + m), nth ys (i + 1 + m))), w] (ftV (ftP xs ys (i, i + 1 + m))))]) (fun H0 H hH0 hag => qtTab_cons (dThrough_ok H) (qtTab_cons (dOne_ok code_impl_fitOf.callable (acalls_vals (hH0.valsA (v := w) (es := 2) (n := xs.length) (cs := pns (ptL xs ys)) (by exact Has.auto)) hag (by omega) fun hv => by rw [ef]; exact fitOf_ok hv hp hln d)) qtTab_nil)) (by with_unfolding_all rfl) (fun base => ?_)
    (repeat (first | with_reducible (first | refine go_nil ?_ | refine gk_seq ?_ | refine gc_seq ?_ | refine gc_reg ?_ | refine gc_skip ?_ | refine gk_block ?_ | refine gc_block ?_ | refine gc_exit ?_ | refine gc_ret ?_ | refine gk_seqret ?_ | refine gk_seqexit ?_ | refine gk_blockret ?_ | refine gk_out ?_ | refine gk_loopret ?_ | refine gk_loopexit ?_ | refine gq_nil ?_ | refine gd_nil ?_ | refine gc_scope ?_ | refine gk_scope ?_ | refine gk_scoper ?_ | refine gk_scopee ?_) | (with_reducible refine gc_drq ?_; intro _) | (with_reducible first | (refine gc_drw (h := ?_); intro _) | (refine gc_drw2 (h := ?_); intro _)) | (show GO _ _ _ _ _ (⟨some _, none, .call _ _⟩ :: _) _; first | (refine go_callp rfl code_impl_ValidCloud.callable (fun H hH => implValidCloud_ok (hH.ints (by exact Has.auto)) (hH.ints (by exact Has.auto)) (by omega) (by omega)) ?_)) | (show GO _ _ _ _ _ (⟨some _, none, _⟩ :: _) _; first | refine go_op (hk := ?_) | (refine go_nw (hk := ?_); intro u; try simp only [List.length_cons, List.length_nil, List.nil_append, Nat.zero_add]) | (refine go_np (hk := ?_); intro id)) | (show GQ _ _ _ _ _ _ _ (⟨some _, none, _⟩ :: _) _; first | refine gq_op (hk := ?_) | (refine gq_nw (hk := ?_); intro u; try simp only [List.length_cons, List.length_nil, List.nil_append, Nat.zero_add])) | (show GD _ _ _ _ _ _ _ (⟨some _, none, _⟩ :: _) _; first | refine gd_op (hk := ?_) | (refine gd_nw (hk := ?_); intro u; try simp only [List.length_cons, List.length_nil, List.nil_append, Nat.zero_add])) | (show GD2 _ _ _ _ _ _ _ _ _ _ _ _ _ _; first | refine gd2_nil rfl ?_ | refine gd2_op (hk := ?_) | (refine gd2_nw (hk := ?_); intro u; try simp only [List.length_cons, List.length_nil, List.nil_append, Nat.zero_add]) | refine gd2_l (hk := ?_) | refine gd2_lp (hk := ?_) | (refine gd2_newp (hk := ?_); intro id) | refine gd2_st (hk := ?_) | (refine gd2_bsl rfl rfl ?_; intro u; try simp only [List.length_cons, List.length_nil, List.nil_append, Nat.zero_add]) | (refine gd2_a (hk := ?_); intro u; try simp only [List.length_cons, List.length_nil, List.nil_append, Nat.zero_add])) | (show GO _ _ _ _ _ (⟨none, none, _⟩ :: _) _; refine go_st (hk := ?_)) | (show GD _ _ _ _ _ _ _ (⟨none, none, _⟩ :: _) _; refine gd_st (hk := ?_)) | (show GO _ _ _ _ _ (⟨_, some _, _⟩ :: _) _; first | refine go_in (hk := ?_) | refine go_out (hk := ?_) | refine go_void (hk := ?_)) | (show GQ _ _ _ _ _ _ _ (⟨_, some _, _⟩ :: _) _; first | refine gq_in (hk := ?_) | refine gq_out (hk := ?_) | refine gq_void (hk := ?_)) | (show GK _ _ _ _ (blockK _ _ _); refine gk_past rfl ?_) | (show GC _ _ _ _ _ (.cond _ _ _) _; first | refine gc_yes (h1 := ?_) | refine gc_no (h1 := ?_))))
    refine gd2_call rfl (dThrough_is (p := (nth xs i, nth ys i)) (q := (nth xs (i + 1 + m), nth ys (i + 1 + m))) (pts12 hp (by omega)) (pts12 hp (by omega)) hne) ?_
    (repeat (first | with_reducible (first | refine go_nil ?_ | refine gk_seq ?_ | refine gc_seq ?_ | refine gc_reg ?_ | refine gc_skip ?_ | refine gk_block ?_ | refine gc_block ?_ | refine gc_exit ?_ | refine gc_ret ?_ | refine gk_seqret ?_ | refine gk_seqexit ?_ | refine gk_blockret ?_ | refine gk_out ?_ | refine gk_loopret ?_ | refine gk_loopexit ?_ | refine gq_nil ?_ | refine gd_nil ?_ | refine gc_scope ?_ | refine gk_scope ?_ | refine gk_scoper ?_ | refine gk_scopee ?_) | (with_reducible refine gc_drq ?_; intro _) | (with_reducible first | (refine gc_drw (h := ?_); intro _) | (refine gc_drw2 (h := ?_); intro _)) | (show GO _ _ _ _ _ (⟨some _, none, .call _ _⟩ :: _) _; first | (refine go_callp rfl code_impl_ValidCloud.callable (fun H hH => implValidCloud_ok (hH.ints (by exact Has.auto)) (hH.ints (by exact Has.auto)) (by omega) (by omega)) ?_)) | (show GO _ _ _ _ _ (⟨some _, none, _⟩ :: _) _; first | refine go_op (hk := ?_) | (refine go_nw (hk := ?_); intro u; try simp only [List.length_cons, List.length_nil, List.nil_append, Nat.zero_add]) | (refine go_np (hk := ?_); intro id)) | (show GQ _ _ _ _ _ _ _ (⟨some _, none, _⟩ :: _) _; first | refine gq_op (hk := ?_) | (refine gq_nw (hk := ?_); intro u; try simp only [List.length_cons, List.length_nil, List.nil_append, Nat.zero_add])) | (show GD _ _ _ _ _ _ _ (⟨some _, none, _⟩ :: _) _; first | refine gd_op (hk := ?_) | (refine gd_nw (hk := ?_); intro u; try simp only [List.length_cons, List.length_nil, List.nil_append, Nat.zero_add])) | (show GD2 _ _ _ _ _ _ _ _ _ _ _ _ _ _; first | refine gd2_nil rfl ?_ | refine gd2_op (hk := ?_) | (refine gd2_nw (hk := ?_); intro u; try simp only [List.length_cons, List.length_nil, List.nil_append, Nat.zero_add]) | refine gd2_l (hk := ?_) | refine gd2_lp (hk := ?_) | (refine gd2_newp (hk := ?_); intro id) | refine gd2_st (hk := ?_) | (refine gd2_bsl rfl rfl ?_; intro u; try simp only [List.length_cons, List.length_nil, List.nil_append, Nat.zero_add]) | (refine gd2_a (hk := ?_); intro u; try simp only [List.length_cons, List.length_nil, List.nil_append, Nat.zero_add])) | (show GO _ _ _ _ _ (⟨none, none, _⟩ :: _) _; refine go_st (hk := ?_)) | (show GD _ _ _ _ _ _ _ (⟨none, none, _⟩ :: _) _; refine gd_st (hk := ?_)) | (show GO _ _ _ _ _ (⟨_, some _, _⟩ :: _) _; first | refine go_in (hk := ?_) | refine go_out (hk := ?_) | refine go_void (hk := ?_)) | (show GQ _ _ _ _ _ _ _ (⟨_, some _, _⟩ :: _) _; first | refine gq_in (hk := ?_) | refine gq_out (hk := ?_) | refine gq_void (hk := ?_)) | (show GK _ _ _ _ (blockK _ _ _); refine gk_past rfl ?_) | (show GC _ _ _ _ _ (.cond _ _ _) _; first | refine gc_yes (h1 := ?_) | refine gc_no (h1 := ?_))))
    refine gd2_call rfl dOne_is ?_
    refine gd2_bslg (stp_bsl1 (es := 6) (ds := ftC (ftP xs ys (i, i + 1 + m))) rfl rfl rfl rfl rfl) ?_
    intro u1
    (repeat (first | with_reducible (first | refine go_nil ?_ | refine gk_seq ?_ | refine gc_seq ?_ | refine gc_reg ?_ | refine gc_skip ?_ | refine gk_block ?_ | refine gc_block ?_ | refine gc_exit ?_ | refine gc_ret ?_ | refine gk_seqret ?_ | refine gk_seqexit ?_ | refine gk_blockret ?_ | refine gk_out ?_ | refine gk_loopret ?_ | refine gk_loopexit ?_ | refine gq_nil ?_ | refine gd_nil ?_ | refine gc_scope ?_ | refine gk_scope ?_ | refine gk_scoper ?_ | refine gk_scopee ?_) | (with_reducible refine gc_drq ?_; intro _) | (with_reducible first | (refine gc_drw (h := ?_); intro _) | (refine gc_drw2 (h := ?_); intro _)) | (show GO _ _ _ _ _ (⟨some _, none, .call _ _⟩ :: _) _; first | (refine go_callp rfl code_impl_ValidCloud.callable (fun H hH => implValidCloud_ok (hH.ints (by exact Has.auto)) (hH.ints (by exact Has.auto)) (by omega) (by omega)) ?_)) | (show GO _ _ _ _ _ (⟨some _, none, _⟩ :: _) _; first | refine go_op (hk := ?_) | (refine go_nw (hk := ?_); intro u; try simp only [List.length_cons, List.length_nil, List.nil_append, Nat.zero_add]) | (refine go_np (hk := ?_); intro id)) | (show GQ _ _ _ _ _ _ _ (⟨some _, none, _⟩ :: _) _; first | refine gq_op (hk := ?_) | (refine gq_nw (hk := ?_); intro u; try simp only [List.length_cons, List.length_nil, List.nil_append, Nat.zero_add])) | (show GD _ _ _ _ _ _ _ (⟨some _, none, _⟩ :: _) _; first | refine gd_op (hk := ?_) | (refine gd_nw (hk := ?_); intro u; try simp only [List.length_cons, List.length_nil, List.nil_append, Nat.zero_add])) | (show GD2 _ _ _ _ _ _ _ _ _ _ _ _ _ _; first | refine gd2_nil rfl ?_ | refine gd2_op (hk := ?_) | (refine gd2_nw (hk := ?_); intro u; try simp only [List.length_cons, List.length_nil, List.nil_append, Nat.zero_add]) | refine gd2_l (hk := ?_) | refine gd2_lp (hk := ?_) | (refine gd2_newp (hk := ?_); intro id) | refine gd2_st (hk := ?_) | (refine gd2_bsl rfl rfl ?_; intro u; try simp only [List.length_cons, List.length_nil, List.nil_append, Nat.zero_add]) | (refine gd2_a (hk := ?_); intro u; try simp only [List.length_cons, List.length_nil, List.nil_append, Nat.zero_add])) | (show GO _ _ _ _ _ (⟨none, none, _⟩ :: _) _; refine go_st (hk := ?_)) | (show GD _ _ _ _ _ _ _ (⟨none, none, _⟩ :: _) _; refine gd_st (hk := ?_)) | (show GO _ _ _ _ _ (⟨_, some _, _⟩ :: _) _; first | refine go_in (hk := ?_) | refine go_out (hk := ?_) | refine go_void (hk := ?_)) | (show GQ _ _ _ _ _ _ _ (⟨_, some _, _⟩ :: _) _; first | refine gq_in (hk := ?_) | refine gq_out (hk := ?_) | refine gq_void (hk := ?_)) | (show GK _ _ _ _ (blockK _ _ _); refine gk_past rfl ?_) | (show GC _ _ _ _ _ (.cond _ _ _) _; first | refine gc_yes (h1 := ?_) | refine gc_no (h1 := ?_))))
    refine go_new rfl (stp_appK cels_ft (by omega) (L := (prT xs xs.length i ++ prI xs i m).map (ftP xs ys)) (M := [ftP xs ys (i, i + 1 + m)]) rfl rfl (by exact Sel.auto) (by exact Has.auto) (by rw [List.length_append]; omega) (by rw [List.length_append]; omega)) ?_
    intro u2
    have el2 : (prT xs xs.length i ++ prI xs i m).map (ftP xs ys) ++ [ftP xs ys (i, i + 1 + m)] = (prT xs xs.length i ++ prI xs i (m + 1)).map (ftP xs ys) := by rw [el, List.map_append (l₁ := prT xs xs.length i ++ prI xs i m)]; rfl
    rw [el2, show (prT xs xs.length i ++ prI xs i m).length + 1 = (prT xs xs.length i ++ prI xs i (m + 1)).length by rw [el]; simp; omega]
    refine go_is0 rfl (stp_stv rfl rfl (by exact Has.auto) (by exact Sel.auto)) ?_
    (repeat (first | with_reducible (first | refine go_nil ?_ | refine gk_seq ?_ | refine gc_seq ?_ | refine gc_reg ?_ | refine gc_skip ?_ | refine gk_block ?_ | refine gc_block ?_ | refine gc_exit ?_ | refine gc_ret ?_ | refine gk_seqret ?_ | refine gk_seqexit ?_ | refine gk_blockret ?_ | refine gk_out ?_ | refine gk_loopret ?_ | refine gk_loopexit ?_ | refine gq_nil ?_ | refine gd_nil ?_ | refine gc_scope ?_ | refine gk_scope ?_ | refine gk_scoper ?_ | refine gk_scopee ?_) | (with_reducible refine gc_drq ?_; intro _) | (with_reducible first | (refine gc_drw (h := ?_); intro _) | (refine gc_drw2 (h := ?_); intro _)) | (show GO _ _ _ _ _ (⟨some _, none, .call _ _⟩ :: _) _; first | (refine go_callp rfl code_impl_ValidCloud.callable (fun H hH => implValidCloud_ok (hH.ints (by exact Has.auto)) (hH.ints (by exact Has.auto)) (by omega) (by omega)) ?_)) | (show GO _ _ _ _ _ (⟨some _, none, _⟩ :: _) _; first | refine go_op (hk := ?_) | (refine go_nw (hk := ?_); intro u; try simp only [List.length_cons, List.length_nil, List.nil_append, Nat.zero_add]) | (refine go_np (hk := ?_); intro id)) | (show GQ _ _ _ _ _ _ _ (⟨some _, none, _⟩ :: _) _; first | refine gq_op (hk := ?_) | (refine gq_nw (hk := ?_); intro u; try simp only [List.length_cons, List.length_nil, List.nil_append, Nat.zero_add])) | (show GD _ _ _ _ _ _ _ (⟨some _, none, _⟩ :: _) _; first | refine gd_op (hk := ?_) | (refine gd_nw (hk := ?_); intro u; try simp only [List.length_cons, List.length_nil, List.nil_append, Nat.zero_add])) | (show GD2 _ _ _ _ _ _ _ _ _ _ _ _ _ _; first | refine gd2_nil rfl ?_ | refine gd2_op (hk := ?_) | (refine gd2_nw (hk := ?_); intro u; try simp only [List.length_cons, List.length_nil, List.nil_append, Nat.zero_add]) | refine gd2_l (hk := ?_) | refine gd2_lp (hk := ?_) | (refine gd2_newp (hk := ?_); intro id) | refine gd2_st (hk := ?_) | (refine gd2_bsl rfl rfl ?_; intro u; try simp only [List.length_cons, List.length_nil, List.nil_append, Nat.zero_add]) | (refine gd2_a (hk := ?_); intro u; try simp only [List.length_cons, List.length_nil, List.nil_append, Nat.zero_add])) | (show GO _ _ _ _ _ (⟨none, none, _⟩ :: _) _; refine go_st (hk := ?_)) | (show GD _ _ _ _ _ _ _ (⟨none, none, _⟩ :: _) _; refine gd_st (hk := ?_)) | (show GO _ _ _ _ _ (⟨_, some _, _⟩ :: _) _; first | refine go_in (hk := ?_) | refine go_out (hk := ?_) | refine go_void (hk := ?_)) | (show GQ _ _ _ _ _ _ _ (⟨_, some _, _⟩ :: _) _; first | refine gq_in (hk := ?_) | refine gq_out (hk := ?_) | refine gq_void (hk := ?_)) | (show GK _ _ _ _ (blockK _ _ _); refine gk_past rfl ?_) | (show GC _ _ _ _ _ (.cond _ _ _) _; first | refine gc_yes (h1 := ?_) | refine gc_no (h1 := ?_))))
    exact gk_next (F := []) (g2 [] u2) (hs := Sub.cons (by exact Sel.auto) (Sub.cons (by exact Sel.auto) (Sub.cons (by exact Sel.auto) (Sub.cons (by exact Sel.auto) (Sub.cons (by exact Sel.auto) (Sub.cons (by exact Sel.auto) (Sub.cons (by exact Sel.auto) (Sub.cons (by exact Sel.auto) (sub_drop (sub_drop (sub_drop (sub_refl _))))))))))))
  · intro z
    simp only [nlSig]
    rw [show prT xs xs.length xs.length ++ prI xs xs.length 0 = prT xs xs.length xs.length from List.append_nil _]
    have hmem : ∀ p, p ∈ prT xs xs.length xs.length → nrP xs p := fun p hp => (prT_mem.1 hp).2.2
    have hnt := nrT_fold xs ys xs.length
    generalize hP : prT xs xs.length xs.length = P at *
    have hnth : ∀ j, j < P.length → nthN P j ∈ P := fun j hj => by unfold nthN; rw [nthA_of hj]; exact List.getElem_mem hj
    have hfit : ∀ i j, i ≤ P.length - 1 → j ≤ P.length - 1 → FitA (ftP xs ys (nthN P i)).2.2 (ftP xs ys (nthN P j)).2.2 := fun i j hi hj => nrR_fit hp (hmem _ (hnth i (by omega))) (hmem _ (hnth j (by omega)))
    obtain ⟨q, hq, hq1, hq2⟩ := fold_lft xs ys (P := P) (k := P.length - 1) (by omega)
    rw [List.take_of_length_le (by omega), ← hnt] at hq1
    have e0 : nthT (P.map (ftP xs ys)) 0 = ftP xs ys (nthN P 0) := by
      unfold nthT nthN
      rw [nthA_of (by simp; omega), nthA_of (by omega)]; simp
    (repeat (first | with_reducible (first | refine go_nil ?_ | refine gk_seq ?_ | refine gc_seq ?_ | refine gc_reg ?_ | refine gc_skip ?_ | refine gk_block ?_ | refine gc_block ?_ | refine gc_exit ?_ | refine gc_ret ?_ | refine gk_seqret ?_ | refine gk_seqexit ?_ | refine gk_blockret ?_ | refine gk_out ?_ | refine gk_loopret ?_ | refine gk_loopexit ?_ | refine gq_nil ?_ | refine gd_nil ?_ | refine gc_scope ?_ | refine gk_scope ?_ | refine gk_scoper ?_ | refine gk_scopee ?_) | (with_reducible refine gc_drq ?_; intro _) | (with_reducible first | (refine gc_drw (h := ?_); intro _) | (refine gc_drw2 (h := ?_); intro _)) | (show GO _ _ _ _ _ (⟨some _, none, .call _ _⟩ :: _) _; first | (refine go_callp rfl code_impl_ValidCloud.callable (fun H hH => implValidCloud_ok (hH.ints (by exact Has.auto)) (hH.ints (by exact Has.auto)) (by omega) (by omega)) ?_)) | (show GO _ _ _ _ _ (⟨some _, none, _⟩ :: _) _; first | refine go_op (hk := ?_) | (refine go_nw (hk := ?_); intro u; try simp only [List.length_cons, List.length_nil, List.nil_append, Nat.zero_add]) | (refine go_np (hk := ?_); intro id)) | (show GQ _ _ _ _ _ _ _ (⟨some _, none, _⟩ :: _) _; first | refine gq_op (hk := ?_) | (refine gq_nw (hk := ?_); intro u; try simp only [List.length_cons, List.length_nil, List.nil_append, Nat.zero_add])) | (show GD _ _ _ _ _ _ _ (⟨some _, none, _⟩ :: _) _; first | refine gd_op (hk := ?_) | (refine gd_nw (hk := ?_); intro u; try simp only [List.length_cons, List.length_nil, List.nil_append, Nat.zero_add])) | (show GD2 _ _ _ _ _ _ _ _ _ _ _ _ _ _; first | refine gd2_nil rfl ?_ | refine gd2_op (hk := ?_) | (refine gd2_nw (hk := ?_); intro u; try simp only [List.length_cons, List.length_nil, List.nil_append, Nat.zero_add]) | refine gd2_l (hk := ?_) | refine gd2_lp (hk := ?_) | (refine gd2_newp (hk := ?_); intro id) | refine gd2_st (hk := ?_) | (refine gd2_bsl rfl rfl ?_; intro u; try simp only [List.length_cons, List.length_nil, List.nil_append, Nat.zero_add]) | (refine gd2_a (hk := ?_); intro u; try simp only [List.length_cons, List.length_nil, List.nil_append, Nat.zero_add])) | (show GO _ _ _ _ _ (⟨none, none, _⟩ :: _) _; refine go_st (hk := ?_)) | (show GD _ _ _ _ _ _ _ (⟨none, none, _⟩ :: _) _; refine gd_st (hk := ?_)) | (show GO _ _ _ _ _ (⟨_, some _, _⟩ :: _) _; first | refine go_in (hk := ?_) | refine go_out (hk := ?_) | refine go_void (hk := ?_)) | (show GQ _ _ _ _ _ _ _ (⟨_, some _, _⟩ :: _) _; first | refine gq_in (hk := ?_) | refine gq_out (hk := ?_) | refine gq_void (hk := ?_)) | (show GK _ _ _ _ (blockK _ _ _); refine gk_past rfl ?_) | (show GC _ _ _ _ _ (.cond _ _ _) _; first | refine gc_yes (h1 := ?_) | refine gc_no (h1 := ?_))))
    have hz0 : 0 < P.length := hpos
    refine gc_drw4 (qtTab [(fn_impl_least_impl_fit, dOne [ftV (ftP xs ys (nthN P 0)), subW z 1 P.length] (ftV (ftP xs ys q)))]) (fun H0 hH0 => ?_)
    refine gd4_ld rfl stp_ldc1 ?_
    refine gd4_is rfl stp_ixa0 ?_
    refine gd4_ld (u := z.elem 0) rfl (stp_ldK cels_ft (0, 0, 0) (i := 0) rfl (by exact Has.auto) (by simp) (by simp; omega)) ?_
    rw [show nthA (0, 0, 0) (P.map (ftP xs ys)) 0 = ftP xs ys (nthN P 0) from e0]
    refine gd4_ld rfl stp_ldc1 ?_
    refine gd4_is rfl (stp_slw (l := 1) rfl rfl (by exact Sel.auto) (by omega)) ?_
    refine gd4_call rfl dOne_is ?_
    refine gd4_new ?_
    refine gd4_st rfl stp_stag ?_
    have hb9 : i9 < H0.size := (hH0.cellAt (id := i9) (by exact Sel.auto)).2
    have hbz : ∀ j, j ∈ vid (z.elem 0) → j < H0.size := fun j hj => by
      have hv := hH0.valsA (v := z) (es := 6) (n := P.length) (cs := fts (P.map (ftP xs ys))) (by exact Has.auto)
      refine hv.bid j ?_
      cases z <;> simp [AV.elem, vid] at hj <;> simp [AV.bid, hj]
    refine gd4_nil ?_ ?_ ?_
    · refine pairs_one (fi := [i9]) (ti := []) (fj := []) (tj := [H0.size + 6]) rfl rfl (by simp) (fun id h1 h2 => ?_) (pairs_one (fi := vid (z.elem 0)) (ti := []) (fj := []) (tj := [H0.size + 6]) rfl rfl (by simp) (fun id h1 h2 => ?_) (pairs_one (fi := [i9]) (ti := []) (fj := []) (tj := [H0.size + 6]) rfl rfl (by simp) (fun id h1 h2 => ?_) trivial))
      · simp only [List.mem_singleton] at h1 h2; omega
      · simp only [List.mem_singleton] at h1
        have := hbz id h2; omega
      · simp only [List.mem_singleton] at h1 h2; omega
    · intro H hH
      have hag : ∀ id, id < H0.size → H.get id = H0.get id := fun id hid => hH id fun f hf h2 => by
        simp only [List.nil_append, List.cons_append, List.mem_cons, List.not_mem_nil, or_false] at hf
        rcases hf with rfl | rfl | rfl | rfl | rfl | rfl | rfl | rfl <;> simp [vid] at h2 <;> omega
      exact qtTab_cons (dOne_ok code_impl_least_impl_fit.callable (acalls_vals (hH0.valsA (v := z) (es := 6) (n := P.length) (cs := fts (P.map (ftP xs ys))) (by exact Has.auto)) hag (by omega) fun hv => by
        have hv2 := vals_sub cels_ft (l := 1) hv (by simp) (by omega)
        have hln : ((P.map (ftP xs ys)).drop 1).length = P.length - 1 := by simp
        have h := leastT_ok (H := H) (w := subW z 1 P.length) (g := fun j => ftP xs ys (nthN P j)) (L := (P.map (ftP xs ys)).drop 1) (by rw [hln]; exact hv2) (fun i hi => by
          rw [hln] at hi
          unfold nthT nthN
          rw [nthA_of (by rw [hln]; exact hi), nthA_of (by omega)]
          simp [Nat.add_comm]) (by rw [hln]; omega) (fun i j hi hj => hfit i j (by omega) (by omega))
        rw [hln, hq2] at h
        exact h)) qtTab_nil
    simp only [ftC]
    (repeat (first | with_reducible (first | refine go_nil ?_ | refine gk_seq ?_ | refine gc_seq ?_ | refine gc_reg ?_ | refine gc_skip ?_ | refine gk_block ?_ | refine gc_block ?_ | refine gc_exit ?_ | refine gc_ret ?_ | refine gk_seqret ?_ | refine gk_seqexit ?_ | refine gk_blockret ?_ | refine gk_out ?_ | refine gk_loopret ?_ | refine gk_loopexit ?_ | refine gq_nil ?_ | refine gd_nil ?_ | refine gc_scope ?_ | refine gk_scope ?_ | refine gk_scoper ?_ | refine gk_scopee ?_) | (with_reducible refine gc_drq ?_; intro _) | (with_reducible first | (refine gc_drw (h := ?_); intro _) | (refine gc_drw2 (h := ?_); intro _)) | (show GO _ _ _ _ _ (⟨some _, none, .call _ _⟩ :: _) _; first | (refine go_callp rfl code_impl_ValidCloud.callable (fun H hH => implValidCloud_ok (hH.ints (by exact Has.auto)) (hH.ints (by exact Has.auto)) (by omega) (by omega)) ?_)) | (show GO _ _ _ _ _ (⟨some _, none, _⟩ :: _) _; first | refine go_op (hk := ?_) | (refine go_nw (hk := ?_); intro u; try simp only [List.length_cons, List.length_nil, List.nil_append, Nat.zero_add]) | (refine go_np (hk := ?_); intro id)) | (show GQ _ _ _ _ _ _ _ (⟨some _, none, _⟩ :: _) _; first | refine gq_op (hk := ?_) | (refine gq_nw (hk := ?_); intro u; try simp only [List.length_cons, List.length_nil, List.nil_append, Nat.zero_add])) | (show GD _ _ _ _ _ _ _ (⟨some _, none, _⟩ :: _) _; first | refine gd_op (hk := ?_) | (refine gd_nw (hk := ?_); intro u; try simp only [List.length_cons, List.length_nil, List.nil_append, Nat.zero_add])) | (show GD2 _ _ _ _ _ _ _ _ _ _ _ _ _ _; first | refine gd2_nil rfl ?_ | refine gd2_op (hk := ?_) | (refine gd2_nw (hk := ?_); intro u; try simp only [List.length_cons, List.length_nil, List.nil_append, Nat.zero_add]) | refine gd2_l (hk := ?_) | refine gd2_lp (hk := ?_) | (refine gd2_newp (hk := ?_); intro id) | refine gd2_st (hk := ?_) | (refine gd2_bsl rfl rfl ?_; intro u; try simp only [List.length_cons, List.length_nil, List.nil_append, Nat.zero_add]) | (refine gd2_a (hk := ?_); intro u; try simp only [List.length_cons, List.length_nil, List.nil_append, Nat.zero_add])) | (show GO _ _ _ _ _ (⟨none, none, _⟩ :: _) _; refine go_st (hk := ?_)) | (show GD _ _ _ _ _ _ _ (⟨none, none, _⟩ :: _) _; refine gd_st (hk := ?_)) | (show GO _ _ _ _ _ (⟨_, some _, _⟩ :: _) _; first | refine go_in (hk := ?_) | refine go_out (hk := ?_) | refine go_void (hk := ?_)) | (show GQ _ _ _ _ _ _ _ (⟨_, some _, _⟩ :: _) _; first | refine gq_in (hk := ?_) | refine gq_out (hk := ?_) | refine gq_void (hk := ?_)) | (show GK _ _ _ _ (blockK _ _ _); refine gk_past rfl ?_) | (show GC _ _ _ _ _ (.cond _ _ _) _; first | refine gc_yes (h1 := ?_) | refine gc_no (h1 := ?_))))
    refine gc_drw3 (fun base => ?_)
    refine gd3_is rfl stp_fa ?_
    refine gd3_is rfl stp_fa ?_
    refine gd3_ld rfl (stp_ldc rfl (by exact Sel.auto) (by exact rfl) (by exact rfl)) ?_
    refine gd3_is rfl stp_fa ?_
    refine gd3_is rfl stp_fa ?_
    refine gd3_ld rfl (stp_ldc rfl (by exact Sel.auto) (by exact rfl) (by exact rfl)) ?_
    refine gd3_is rfl stp_fa ?_
    refine gd3_ld rfl (stp_ldc rfl (by exact Sel.auto) (by exact rfl) (by exact rfl)) ?_
    refine gd3_st rfl stp_stag ?_
    refine gd3_st rfl stp_stag ?_
    refine gd3_st rfl stp_stag ?_
    refine gd3_is rfl stp_mv ?_
    refine gd3_nil (fun m H h => pairs_ls rfl rfl (ptr_ne h (by exact Sel.auto) (by exact Sel.auto)) (pairs_ls rfl rfl (ptr_ne h (by exact Sel.auto) (by exact Sel.auto)) (pairs_ls rfl rfl (ptr_ne h (by exact Sel.auto) (by exact Sel.auto)) trivial))) ?_
    (repeat (first | with_reducible (first | refine go_nil ?_ | refine gk_seq ?_ | refine gc_seq ?_ | refine gc_reg ?_ | refine gc_skip ?_ | refine gk_block ?_ | refine gc_block ?_ | refine gc_exit ?_ | refine gc_ret ?_ | refine gk_seqret ?_ | refine gk_seqexit ?_ | refine gk_blockret ?_ | refine gk_out ?_ | refine gk_loopret ?_ | refine gk_loopexit ?_ | refine gq_nil ?_ | refine gd_nil ?_ | refine gc_scope ?_ | refine gk_scope ?_ | refine gk_scoper ?_ | refine gk_scopee ?_) | (with_reducible refine gc_drq ?_; intro _) | (with_reducible first | (refine gc_drw (h := ?_); intro _) | (refine gc_drw2 (h := ?_); intro _)) | (show GO _ _ _ _ _ (⟨some _, none, .call _ _⟩ :: _) _; first | (refine go_callp rfl code_impl_ValidCloud.callable (fun H hH => implValidCloud_ok (hH.ints (by exact Has.auto)) (hH.ints (by exact Has.auto)) (by omega) (by omega)) ?_)) | (show GO _ _ _ _ _ (⟨some _, none, _⟩ :: _) _; first | refine go_op (hk := ?_) | (refine go_nw (hk := ?_); intro u; try simp only [List.length_cons, List.length_nil, List.nil_append, Nat.zero_add]) | (refine go_np (hk := ?_); intro id)) | (show GQ _ _ _ _ _ _ _ (⟨some _, none, _⟩ :: _) _; first | refine gq_op (hk := ?_) | (refine gq_nw (hk := ?_); intro u; try simp only [List.length_cons, List.length_nil, List.nil_append, Nat.zero_add])) | (show GD _ _ _ _ _ _ _ (⟨some _, none, _⟩ :: _) _; first | refine gd_op (hk := ?_) | (refine gd_nw (hk := ?_); intro u; try simp only [List.length_cons, List.length_nil, List.nil_append, Nat.zero_add])) | (show GD2 _ _ _ _ _ _ _ _ _ _ _ _ _ _; first | refine gd2_nil rfl ?_ | refine gd2_op (hk := ?_) | (refine gd2_nw (hk := ?_); intro u; try simp only [List.length_cons, List.length_nil, List.nil_append, Nat.zero_add]) | refine gd2_l (hk := ?_) | refine gd2_lp (hk := ?_) | (refine gd2_newp (hk := ?_); intro id) | refine gd2_st (hk := ?_) | (refine gd2_bsl rfl rfl ?_; intro u; try simp only [List.length_cons, List.length_nil, List.nil_append, Nat.zero_add]) | (refine gd2_a (hk := ?_); intro u; try simp only [List.length_cons, List.length_nil, List.nil_append, Nat.zero_add])) | (show GO _ _ _ _ _ (⟨none, none, _⟩ :: _) _; refine go_st (hk := ?_)) | (show GD _ _ _ _ _ _ _ (⟨none, none, _⟩ :: _) _; refine gd_st (hk := ?_)) | (show GO _ _ _ _ _ (⟨_, some _, _⟩ :: _) _; first | refine go_in (hk := ?_) | refine go_out (hk := ?_) | refine go_void (hk := ?_)) | (show GQ _ _ _ _ _ _ _ (⟨_, some _, _⟩ :: _) _; first | refine gq_in (hk := ?_) | refine gq_out (hk := ?_) | refine gq_void (hk := ?_)) | (show GK _ _ _ _ (blockK _ _ _); refine gk_past rfl ?_) | (show GC _ _ _ _ _ (.cond _ _ _) _; first | refine gc_yes (h1 := ?_) | refine gc_no (h1 := ?_))))
    exact gk_rets (rvs_c rfl (by exact Sel.auto) rfl rfl (rvs_c rfl (by exact Sel.auto) rfl rfl (rvs_c rfl (by exact Sel.auto) rfl rfl (rvs_t rfl rvs_nil)))) fun H' hH => ⟨by rw [nrX, if_pos hc, hq1]; rfl, hH.leE⟩

/-- the line through two points is the line through them the other way round -/
theorem slR_swap (xs ys : List Int) (i k : Nat) : slR xs ys i k = slR xs ys k i := by
  unfold slR
  by_cases h : nth xs i = nth xs k
  · rw [h, show ∀ a : Int, a - a = 0 from fun a => by omega, show ((0 : Int) : Rat) = 0 from rfl]
    grind
  · rw [show nth ys i - nth ys k = -(nth ys k - nth ys i) by omega, show nth xs i - nth xs k = -(nth xs k - nth xs i) by omega, Rat.intCast_neg, Rat.intCast_neg, div_neg' (rat_ne (by omega))]
    grind

theorem slR_mul {xs ys : List Int} {i k : Nat} (h : nth xs i ≠ nth xs k) : slR xs ys i k * (((nth xs i : Int) : Rat) - ((nth xs k : Int) : Rat)) = ((nth ys i : Int) : Rat) - ((nth ys k : Int) : Rat) := by
  unfold slR
  rw [← Rat.intCast_sub, Rat.div_mul_cancel (rat_ne (by omega)), Rat.intCast_sub]

noncomputable def opN (p : Prop) (q : Rat) : Int := by
  classical
  exact if p then q.num else 0

noncomputable def opD (p : Prop) (q : Rat) : Int := by
  classical
  exact if p then (q.den : Int) else 0

noncomputable abbrev opV (p : Prop) (q : Rat) : AV := .agg [.int .i64 (opN p q), .int .i64 (opD p q)]

theorem opV_yes {p : Prop} {q : Rat} (h : p) : opV p q = frV q := by
  unfold opV opN opD; rw [if_pos h, if_pos h]; rfl

theorem opV_no {p : Prop} {q : Rat} (h : ¬ p) : opV p q = fr0 := by
  unfold opV opN opD; rw [if_neg h, if_neg h]

theorem sqX_t (xs ys : List Int) : sqX xs ys = .tuple [opV (Cloud xs ys) (sqA xs ys), opV (Cloud xs ys) (sqB xs ys), .bool (decide (Cloud xs ys))] := by
  unfold sqX
  by_cases h : Cloud xs ys
  · rw [if_pos h, opV_yes h, opV_yes h, decide_eq_true h]
  · rw [if_neg h, opV_no h, opV_no h, decide_eq_false h]

theorem nrT_some {xs ys : List Int} (h : Cloud xs ys) : ∃ p, p ∈ prT xs xs.length xs.length ∧ nrT xs ys xs.length = some p := by
  obtain ⟨p, h1, h2, _⟩ := fold_lft xs ys (P := prT xs xs.length xs.length) (k := (prT xs xs.length xs.length).length - 1) (by have := h.pairs; omega)
  rw [List.take_of_length_le (by omega), ← nrT_fold] at h2
  exact ⟨p, h1, h2⟩

noncomputable def nrQ (xs ys : List Int) : Nat × Nat := (nrT xs ys xs.length).getD (0, 0)

theorem nrX_t (xs ys : List Int) : nrX xs ys = .tuple [opV (Cloud xs ys) (nrA xs ys (nrQ xs ys)), opV (Cloud xs ys) (nrB xs ys (nrQ xs ys)), opV (Cloud xs ys) (nrR xs ys (nrQ xs ys)), .bool (decide (Cloud xs ys))] := by
  unfold nrX
  by_cases h : Cloud xs ys
  · obtain ⟨p, _, e⟩ := nrT_some h
    unfold nrQ
    rw [if_pos h, opV_yes h, opV_yes h, opV_yes h, decide_eq_true h, e]; rfl
  · rw [if_neg h, opV_no h, opV_no h, opV_no h, decide_eq_false h]

theorem implSquareLine_t {H : Heap} {a b : AV} {xs ys : List Int} (ha : Ints H a xs) (hb : Ints H b ys) (hl : xs.length ≤ 1000000000) (hl' : ys.length ≤ 1000000000) :
    ACalls Try.prog fn_impl_SquareLine [a, b] H fun r H' => r = .tuple [opV (Cloud xs ys) (sqA xs ys), opV (Cloud xs ys) (sqB xs ys), .bool (decide (Cloud xs ys))] ∧ H' = H := by
  rw [← sqX_t]; exact implSquareLine_ok ha hb hl hl'

theorem specNearLine_t {H : Heap} {a b : AV} {xs ys : List Int} (ha : Ints H a xs) (hb : Ints H b ys) (hl : xs.length ≤ 1000000000) (hl' : ys.length ≤ 1000000000) :
    ACalls Try.prog fn_spec_NearLine [a, b] H fun r H' => r = .tuple [opV (Cloud xs ys) (nrA xs ys (nrQ xs ys)), opV (Cloud xs ys) (nrB xs ys (nrQ xs ys)), opV (Cloud xs ys) (nrR xs ys (nrQ xs ys)), .bool (decide (Cloud xs ys))] ∧ H' = H := by
  rw [← nrX_t]; exact specNearLine_ok ha hb hl hl'

theorem implNearLine_t {H : Heap} {a b : AV} {xs ys : List Int} (ha : Ints H a xs) (hb : Ints H b ys) (hl : xs.length ≤ 1000000000) (hl' : ys.length ≤ 1000000000) :
    ACalls Try.prog fn_impl_NearLine [a, b] H fun r H' => r = .tuple [opV (Cloud xs ys) (nrA xs ys (nrQ xs ys)), opV (Cloud xs ys) (nrB xs ys (nrQ xs ys)), opV (Cloud xs ys) (nrR xs ys (nrQ xs ys)), .bool (decide (Cloud xs ys))] ∧ H' = H := by
  rw [← nrX_t]; exact implNearLine_ok ha hb hl hl'

theorem Pts.neg {xs ys : List Int} (h : Pts xs ys) : Pts xs (ys.map (- ·)) := by
  obtain ⟨h1, h2, h3⟩ := h
  refine ⟨fun i hi => ?_, by simp [h2], h3⟩
  have h4 := h1 i hi
  rw [getD_map _ (by omega)]
  exact ⟨by simp; omega, h4.2.1, by omega⟩

theorem Cloud.neg {xs ys : List Int} (h : Cloud xs ys) : Cloud xs (ys.map (- ·)) := ⟨h.1.neg, h.2⟩
/- slopes of what is turned, of what is negated -/

theorem sum_fd {f : Nat → Rat} {D B : Int} (h : ∀ j, FD (f j) D B) : ∀ k : Nat, FD (sumR f k) D (B * (k : Int))
  | 0 => ⟨(h 0).pos.1, 0, by rw [sumR]; rw [Rat.zero_mul]; rfl, by simp, by simp⟩
  | k + 1 => by
    have := (sum_fd h k).add (h k)
    rw [Int.natCast_add, Int.natCast_one, Int.mul_add, Int.mul_one]
    exact this
/- the nearest line -/

theorem nrC_cost (xs ys : List Int) (s h : Rat) : ∀ k, nrC xs ys s h k = cost (PtR xs) (PtR ys) k s h
  | 0 => rfl
  | k + 1 => by
    rw [nrC, nrC_cost xs ys s h k]; rfl

theorem nrC_sum (xs ys : List Int) (s h : Rat) : ∀ k, nrC xs ys s h k = sumR (fun j => absR (nrD xs ys s h j)) k
  | 0 => rfl
  | k + 1 => by rw [nrC, nrC_sum xs ys s h k]; rfl

theorem nrF_min (xs ys : List Int) : ∀ {P : List (Nat × Nat)} {st : Option (Nat × Nat)} {q : Nat × Nat}, P.foldl (nrF xs ys) st = some q → (∀ s, st = some s → nrR xs ys q ≤ nrR xs ys s) ∧ ∀ p ∈ P, nrR xs ys q ≤ nrR xs ys p
  | [], st, q, h => ⟨fun s hs => by
      rw [List.foldl_nil] at h
      rw [h] at hs
      cases hs; exact Rat.le_refl, fun p hp => by cases hp⟩
  | a :: P, st, q, h => by
    rw [List.foldl_cons] at h
    obtain ⟨h1, h2⟩ := nrF_min xs ys h
    cases st with
    | none =>
      have h3 := h1 a rfl
      refine ⟨fun s hs => (by cases hs), fun p hp => ?_⟩
      rcases List.mem_cons.1 hp with rfl | h4
      · exact h3
      · exact h2 p h4
    | some t =>
      by_cases h5 : nrR xs ys a < nrR xs ys t
      · have h3 := h1 a (if_pos h5)
        refine ⟨fun s hs => ?_, fun p hp => ?_⟩
        · cases hs; grind
        · rcases List.mem_cons.1 hp with rfl | h4
          · exact h3
          · exact h2 p h4
      · have h3 := h1 t (if_neg h5)
        refine ⟨fun s hs => ?_, fun p hp => ?_⟩
        · cases hs; exact h3
        · rcases List.mem_cons.1 hp with rfl | h4
          · grind
          · exact h2 p h4

theorem nrQ_is {xs ys : List Int} (hc : Cloud xs ys) : nrQ xs ys ∈ prT xs xs.length xs.length ∧ ∀ p ∈ prT xs xs.length xs.length, nrR xs ys (nrQ xs ys) ≤ nrR xs ys p := by
  obtain ⟨p, hp, e⟩ := nrT_some hc
  have e2 : nrQ xs ys = p := by unfold nrQ; rw [e]; rfl
  rw [e2]
  rw [nrT_fold] at e
  exact ⟨hp, (nrF_min xs ys e).2⟩

theorem nrR_cost (xs ys : List Int) (i k : Nat) : nrR xs ys (i, k) = cost (PtR xs) (PtR ys) xs.length (slR xs ys k i) (bRes xs ys (slR xs ys k i) i) := nrC_cost _ _ _ _ _

theorem slR_PtR (xs ys : List Int) (i k : Nat) : slR xs ys k i = (PtR ys k - PtR ys i) / (PtR xs k - PtR xs i) := by
  unfold slR PtR
  rw [Rat.intCast_sub, Rat.intCast_sub]

theorem bRes_PtR (xs ys : List Int) (s : Rat) (i : Nat) : bRes xs ys s i = PtR ys i - s * PtR xs i := by
  unfold bRes PtR
  have e2 : ((0 : Int) : Rat) = 0 := rfl
  rw [e2, Rat.add_zero]

theorem nr_least {xs ys : List Int} (hc : Cloud xs ys) (s h : Rat) : nrR xs ys (nrQ xs ys) ≤ nrC xs ys s h xs.length := by
  obtain ⟨hq, hmin⟩ := nrQ_is hc
  obtain ⟨w, w1, w2, w3⟩ := hc.2
  obtain ⟨i, k, hi, hk, hx, hle⟩ := near_two (X := PtR xs) (Y := PtR ys) (n := xs.length) ⟨0, w, by omega, w2, fun e => w3 (rat_inj e).symm⟩ s h
  rw [nrC_cost]
  refine Rat.le_trans ?_ hle
  have hne : nth xs i ≠ nth xs k := fun e => hx (congrArg (fun z : Int => (z : Rat)) e)
  have hb : bRes xs ys (slR xs ys k i) i = PtR ys i - (PtR ys k - PtR ys i) / (PtR xs k - PtR xs i) * PtR xs i := by rw [bRes_PtR, slR_PtR]
  rcases Nat.lt_or_ge i k with h1 | h1
  · have h2 := hmin (i, k) (prT_mem.2 ⟨h1, hk, hne⟩)
    rw [nrR_cost xs ys i k, hb, slR_PtR xs ys i k] at h2
    exact h2
  · have h3 : k < i := by
      rcases Nat.lt_or_ge k i with h4 | h4
      · exact h4
      · exact absurd (show nth xs i = nth xs k by rw [show i = k by omega]) hne
    have h2 := hmin (k, i) (prT_mem.2 ⟨h3, hi, fun e => hne e.symm⟩)
    rw [nrR_cost xs ys k i, slR_swap xs ys i k] at h2
    have hb2 : bRes xs ys (slR xs ys k i) k = bRes xs ys (slR xs ys k i) i := by
      have hm := slR_mul (xs := xs) (ys := ys) (i := k) (k := i) (fun e => hne e.symm)
      rw [bRes_PtR, bRes_PtR]
      unfold PtR
      grind
    rw [hb2, hb, slR_PtR xs ys i k] at h2
    exact h2

def zcT (f : Nat → Rat) : Nat → Nat
  | 0 => 0
  | k + 1 => if (f k).num = 0 then zcT f k + 1 else zcT f k

theorem zcT_up (f : Nat → Rat) {i : Nat} : ∀ {k}, i ≤ k → zcT f i ≤ zcT f k
  | 0, h => by rw [show i = 0 by omega]; exact Nat.le_refl _
  | k + 1, h => by
    rcases Nat.lt_or_ge k i with h1 | h1
    · rw [show i = k + 1 by omega]; exact Nat.le_refl _
    · have := zcT_up f (i := i) h1
      rw [zcT]; split <;> omega

theorem zcT_le (f : Nat → Rat) : ∀ k, zcT f k ≤ k
  | 0 => Nat.le_refl _
  | k + 1 => by have := zcT_le f k; rw [zcT]; split <;> omega

theorem zcT_two {f : Nat → Rat} {i j n : Nat} (hij : i < j) (hj : j < n) (h1 : f i = 0) (h2 : f j = 0) : 2 ≤ zcT f n := by
  have e1 : zcT f (i + 1) = zcT f i + 1 := by rw [zcT, if_pos (by rw [h1]; rfl)]
  have e2 : zcT f (j + 1) = zcT f j + 1 := by rw [zcT, if_pos (by rw [h2]; rfl)]
  have u1 := zcT_up f (i := i + 1) (k := j) (by omega)
  have u2 := zcT_up f (i := j + 1) (k := n) (by omega)
  omega

theorem nr_two {xs ys : List Int} (hc : Cloud xs ys) : 2 ≤ zcT (fun j => absR (nrD xs ys (nrA xs ys (nrQ xs ys)) (nrB xs ys (nrQ xs ys)) j)) xs.length := by
  obtain ⟨hq, _⟩ := nrQ_is hc
  obtain ⟨h1, h2, h3⟩ := prT_mem.1 hq
  generalize nrQ xs ys = q at *
  have a0 : absR 0 = 0 := by decide +kernel
  have hm := slR_mul (xs := xs) (ys := ys) (i := q.2) (k := q.1) (fun e => h3 e.symm)
  have e2 : ((0 : Int) : Rat) = 0 := rfl
  refine zcT_two h1 h2 ?_ ?_
  · show absR _ = 0
    rw [show nrD xs ys (nrA xs ys q) (nrB xs ys q) q.1 = 0 by unfold nrD nrB nrA bRes; rw [e2]; grind]; exact a0
  · show absR _ = 0
    rw [show nrD xs ys (nrA xs ys q) (nrB xs ys q) q.2 = 0 by unfold nrD nrB nrA bRes; rw [e2]; grind]; exact a0

theorem nth_take {xs : List Int} {m i : Nat} (h : i < m) : nth (xs.take m) i = nth xs i := by
  unfold nth
  simp [List.getD, List.getElem?_take_of_lt h]

theorem Pts.take {xs ys : List Int} (h : Pts xs ys) (m : Nat) : Pts (xs.take m) (ys.take m) := by
  obtain ⟨h1, h2, h3⟩ := h
  refine ⟨fun i hi => ?_, by simp [h2], by simp; omega⟩
  rw [List.length_take] at hi
  have h4 := h1 i (by omega)
  rw [nth_take (by omega), nth_take (by omega), List.length_take]
  exact ⟨by omega, h4.2⟩

theorem CvOk.take {xs ys : List Int} (h : CvOk xs ys) {m : Nat} (h1 : 1 ≤ m) (hm : m ≤ xs.length) : CvOk (xs.take m) (ys.take m) := by
  have h5 := h.1.2
  have hl : (xs.take m).length = m := by rw [List.length_take]; omega
  refine ⟨⟨h.1.1.take m, by rw [hl]; omega⟩, fun i hi k hk => ?_⟩
  rw [hl] at hi
  rw [nth_take (by omega), nth_take (by omega)]
  exact h.2 i (by omega) k hk

theorem stp_ageqS {A : Heap} {X : List Nat} {E : List (Nat × AV)} {S : Sig} {k : IntKind} {x y : MX} {a b : Int} (hx : evE E x = some (.agg [.int k a, .int k b])) (hy : evE E y = some (.agg [.int k a, .int k b])) : Stp A X E S (.ageq false 2 x y) (Is (.bool true) S) := by
  have h := stp_ageq2 (A := A) (X := X) (S := S) hx hy
  simpa using h

theorem stp_agneS {A : Heap} {X : List Nat} {E : List (Nat × AV)} {S : Sig} {k : IntKind} {x y : MX} {a b : Int} (hx : evE E x = some (.agg [.int k a, .int k b])) (hy : evE E y = some (.agg [.int k a, .int k b])) : Stp A X E S (.ageq true 2 x y) (Is (.bool false) S) := by
  have h := stp_ageq (A := A) (X := X) (S := S) (neg := true) (n := 2) (b := (a == a && (b == b && true))) hx hy rfl (by simp [flatEq])
  simpa using h

theorem dOverL_ok (H : Heap) : FamOk Try.prog H fn_laws_overOf dOver := dOver_fam code_laws_overOf.callable (fun a b c => lawOver_ok a b c) H

theorem dSizeL_ok (H : Heap) : FamOk Try.prog H fn_laws_sizeOf dSize := dSize_fam code_laws_sizeOf.callable (fun h => lawSize_ok h) H

theorem elem_old {A : Heap} {X : List Nat} {S : Sig} {H0 : Heap} {v : AV} {es n i : Nat} {cs : List AV} (hH0 : SOk A X S H0.size H0) (hh : Has S v es n cs) : ∀ j, j ∈ vid (v.elem i) → j < H0.size := fun j hj => by
  have hv := hH0.valsA hh
  refine hv.bid j ?_
  cases v <;> simp [AV.elem, vid] at hj <;> simp [AV.bid, hj]

theorem sq_fits {xs ys : List Int} (hc : Cloud xs ys) : ∃ D : Int, 0 < D ∧ D ≤ 98784 ∧ D * D ≤ 9758278656 ∧ LineOk (sqA xs ys) (sqB xs ys) D 98784 2376108 ∧ (∀ j, FD (nrD xs ys (sqA xs ys) (sqB xs ys) j) D 7117740) := by
  have hq := hc.sq
  have hn := hq.n
  have hd := hq.del
  have hm := mulbd (a := delT xs xs.length) (b := (xs.length : Int)) (A := 14112) (B := 7) (by omega) (by omega) (by omega) (by omega)
  have h0 := hq.line.s.pos.1
  have hdd := mulbd (a := delT xs xs.length * (xs.length : Int)) (b := delT xs xs.length * (xs.length : Int)) (A := 98784) (B := 98784) (by omega) (by omega) (by omega) (by omega)
  have bx := hc.1.bd.1
  have bY := hc.1.bd.2
  refine ⟨_, h0, by omega, by omega, hq.line, fun j => ?_⟩
  have b1 := bx.nth (by omega) j
  have b2 := bY.nth (by omega) j
  exact (hq.line.over (x := nth xs j) (y := nth ys j) (by omega) (by omega)).mono (by omega)

end Go.Rx.Try
