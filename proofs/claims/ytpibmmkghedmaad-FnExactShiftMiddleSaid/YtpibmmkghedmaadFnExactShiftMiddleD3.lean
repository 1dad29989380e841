import Derived.Test.YtpibmmkghedmaadFnExactShiftMiddleD2
namespace Go.Rx.Try
open Go.Proofs
set_option maxRecDepth 100000
set_option maxHeartbeats 8000000
set_option linter.unusedSimpArgs false
set_option linter.unusedVariables false

theorem specMiddle_ok {H : Heap} {a : AV} {xs : List Int} (ha : Ints H a xs) (hd : Data xs) (h0 : 0 < xs.length) :
    ACalls Try.prog fn_spec_middle [a] H fun r H' => r = .int .i64 (midL xs) ∧ H' = H := by
  refine ACalls.val ?_ rfl
  have hl := hd.1
  have hb := sortL_bd hd
  have hsl := sortL_length xs
  refine code_spec_middle.go [.roI a xs.length xs] ⟨⟨rfl, ha⟩, trivial⟩ (by simp) ?_
  unfold mc_spec_middle
  have e1 : ((((sortL xs).length : Int) - 1) / 2).toNat = (xs.length - 1) / 2 := by rw [hsl]; omega
  have e2 : (((sortL xs).length : Int) / 2).toNat = xs.length / 2 := by rw [hsl]; omega
  have k1 := hb.nth (by omega) ((((sortL xs).length : Int) - 1) / 2).toNat
  have k2 := hb.nth (by omega) (((sortL xs).length : Int) / 2).toNat
  (repeat (first | with_reducible (first | refine go_nil ?_ | refine gk_seq ?_ | refine gc_seq ?_ | refine gc_reg ?_ | refine gc_skip ?_ | refine gk_block ?_ | refine gc_block ?_ | refine gc_exit ?_ | refine gc_ret ?_ | refine gk_seqret ?_ | refine gk_seqexit ?_ | refine gk_blockret ?_ | refine gk_out ?_ | refine gk_loopret ?_ | refine gk_loopexit ?_ | refine gq_nil ?_) | (with_reducible refine gc_drq ?_; intro _) | (show GO _ _ _ _ _ (⟨some _, none, .call _ _⟩ :: _) _; first | (show GO _ _ _ _ _ (⟨some _, none, .call fn_spec_sorted _⟩ :: _) _; refine go_calln rfl code_spec_sorted.callable (fun H hH => specSorted_ok (hH.ints (by exact Has.auto)) (by omega)) ?_; intro u)) | (show GO _ _ _ _ _ (⟨some _, none, _⟩ :: _) _; first | refine go_op (hk := ?_) | (refine go_nw (hk := ?_); intro u; try simp only [List.length_cons, List.length_nil, List.nil_append, Nat.zero_add]) | (refine go_np (hk := ?_); intro id)) | (show GQ _ _ _ _ _ _ _ (⟨some _, none, _⟩ :: _) _; first | refine gq_op (hk := ?_) | (refine gq_nw (hk := ?_); intro u; try simp only [List.length_cons, List.length_nil, List.nil_append, Nat.zero_add])) | (show GO _ _ _ _ _ (⟨none, none, _⟩ :: _) _; refine go_st (hk := ?_)) | (show GO _ _ _ _ _ (⟨_, some _, _⟩ :: _) _; first | refine go_in (hk := ?_) | refine go_out (hk := ?_) | refine go_void (hk := ?_)) | (show GQ _ _ _ _ _ _ _ (⟨_, some _, _⟩ :: _) _; first | refine gq_in (hk := ?_) | refine gq_out (hk := ?_) | refine gq_void (hk := ?_)) | (show GK _ _ _ _ (blockK _ _ _); refine gk_past rfl ?_) | (show GC _ _ _ _ _ (.cond _ _ _) _; first | refine gc_yes (h1 := ?_) | refine gc_no (h1 := ?_))))
  refine gk_ret rfl fun H' hH => ⟨?_, hH.leE⟩
  simp only [tupleOf, midL, e1, e2]

theorem insN_perm (x : Int) : ∀ l : List Int, (insN x l).Perm (x :: l)
  | [] => .refl _
  | y :: l => by
    unfold insN
    split
    · exact ((insN_perm x l).cons y).trans (.swap x y l)
    · exact .refl _

theorem sortTo_perm (xs : List Int) : ∀ i, i ≤ xs.length → (sortTo xs i).Perm (xs.take i)
  | 0, _ => .refl _
  | i + 1, h => by
    rw [sortTo, take_snoc (by omega)]
    refine (insN_perm _ _).trans ?_
    refine ((sortTo_perm xs i (by omega)).cons _).trans ?_
    exact (List.perm_append_singleton _ _).symm

theorem sortL_perm (xs : List Int) : (sortL xs).Perm xs := by
  have := sortTo_perm xs xs.length (Nat.le_refl _)
  rwa [List.take_length] at this

theorem sortL_up (xs : List Int) : Up (sortL xs) := sortTo_up xs _

structure F4 where
  a : Int
  b : Int
  c : Int
  d : Int

abbrev F4.v (g : F4) : AV := .agg [.int .i64 g.a, .int .i64 g.b, .int .i64 g.c, .int .i64 g.d]

abbrev F4.ok (g : F4) : Prop := (0 ≤ g.a ∧ g.a ≤ 5) ∧ (-1 ≤ g.b ∧ (g.b ≤ 5 ∨ g.b = 9)) ∧ (0 ≤ g.c ∧ g.c ≤ 5) ∧ (0 ≤ g.d ∧ g.d ≤ 8)

theorem Samples.swap {xs ys : List Int} (h : Samples xs ys) : Samples ys xs := ⟨⟨h.1.2, h.1.1⟩, by have := h.2; omega, by have := h.2; omega, by have := h.2; omega⟩

def SumsOk (xs : List Int) : Prop := (∀ i, i < xs.length → 0 ≤ nth xs i ∧ nth xs i ≤ 6) ∧ 1 ≤ xs.length ∧ xs.length ≤ 3

noncomputable instance (xs : List Int) : Decidable (SumsOk xs) := Classical.propDecidable _

abbrev TabOk (xs ys : List Int) : Prop := (SumsOk xs ∧ SumsOk ys) ∧ sumL xs = sumL ys

def B4 (xs : List Int) : Prop := ∀ x ∈ xs, 0 ≤ x ∧ x ≤ 4

theorem B4.app {xs ys : List Int} (h : B4 xs) (k : B4 ys) : B4 (xs ++ ys) := by
  intro x hx
  rcases List.mem_append.1 hx with hx | hx
  · exact h x hx
  · exact k x hx

theorem B4.bd {xs : List Int} (h : B4 xs) : Bd 1000000 xs := fun x hx => by have := h x hx; omega

theorem Bd.set {b y : Int} {xs : List Int} {i : Nat} (h : Bd b xs) (hy : -b ≤ y ∧ y ≤ b) : Bd b (xs.set i y) := by
  intro x hx
  rcases List.mem_or_eq_of_mem_set hx with hx | rfl
  · exact h x hx
  · exact hy

theorem TabOk.swap {xs ys : List Int} (h : TabOk xs ys) : TabOk ys xs := ⟨⟨h.1.2, h.1.1⟩, h.2.symm⟩

structure P2 where
  a : Int
  b : Int

abbrev P2.v (g : P2) : AV := .tuple [.int .i64 g.a, .int .i64 g.b]

abbrev P2.lev (g : P2) : Prop := (0 ≤ g.a ∧ g.a ≤ 102) ∧ 0 ≤ g.b ∧ g.b ≤ 101

structure N4 where
  n : Int
  k : Int
  u : Int
  v : Int

abbrev N4.ok (g : N4) : Prop := (0 ≤ g.n ∧ g.n ≤ 11) ∧ (-1 ≤ g.k ∧ g.k ≤ 11) ∧ (0 ≤ g.u ∧ g.u ≤ 14) ∧ (0 ≤ g.v ∧ g.v ≤ 13)

structure N3 where
  n : Int
  a : Int
  b : Int

abbrev N3.v (g : N3) : AV := .tuple [.int .i64 g.n, .int .i64 g.a, .int .i64 g.b]

abbrev N3.ok (g : N3) : Prop := (0 ≤ g.n ∧ g.n ≤ 11) ∧ (0 ≤ g.a ∧ g.a ≤ 102) ∧ 0 ≤ g.b ∧ g.b ≤ 101

structure N5 where
  n : Int
  k : Int
  v : Int
  a : Int
  b : Int

abbrev N5.ok (g : N5) : Prop := (0 ≤ g.n ∧ g.n ≤ 11) ∧ (-1 ≤ g.k ∧ g.k ≤ 12) ∧ (0 ≤ g.v ∧ g.v ≤ 12) ∧ (0 ≤ g.a ∧ g.a ≤ 102) ∧ 0 ≤ g.b ∧ g.b ≤ 101

def tabZ (n : Nat) (f : Nat → Int) : List Int := (List.range n).map f

theorem tabZ_len (n : Nat) (f : Nat → Int) : (tabZ n f).length = n := by simp [tabZ]

theorem tabZ_succ (n : Nat) (f : Nat → Int) : tabZ (n + 1) f = tabZ n f ++ [f n] := by simp [tabZ, List.range_succ]

structure GK5 where
  u : AV
  xs : List Int
  lev : Int
  kd : List UInt8

abbrev GK5.v (g : GK5) : AV := .tuple [g.u, .int .i64 g.lev, .str g.kd]

def keyZ (xs : List Int) (i : Int) : Int := nth xs i.toNat

def bef (K : Int → Int) (a b : Int) : Prop := K a < K b ∨ (K a = K b ∧ a < b)

def idxL (n : Nat) : List Int := tabZ n fun i => (i : Int)

theorem idxL_len (n : Nat) : (idxL n).length = n := tabZ_len _ _

def BySize (xs : List Int) (n : Nat) (ys : List Int) : Prop := ys.Perm (idxL n) ∧ ys.Pairwise (bef (keyZ xs))

theorem BySize.len {xs : List Int} {n : Nat} {ys : List Int} (h : BySize xs n ys) : ys.length = n := by rw [h.1.length_eq, idxL_len]

inductive Way | all | down | up | share

def Way.val : Way → Int → Int → Int → Int
  | .all, x, n, _ => x * n
  | .down, x, n, p => x * (n - p)
  | .up, x, n, p => x * (n - p)
  | .share, x, n, p => (x * n + p) / (p + 1)

theorem specMiddleB_ok {H : Heap} {a : AV} {xs : List Int} (ha : Ints H a xs) (hb0 : Bd 1000 xs) (hl : xs.length ≤ 1000) (h0 : 0 < xs.length) :
    ACalls Try.prog fn_spec_middle [a] H fun r H' => r = .int .i64 (midL xs) ∧ H' = H := by
  refine ACalls.val ?_ rfl
  have hb : Bd 1000 (sortL xs) := sortTo_bd hb0 (by omega) _
  have hsl := sortL_length xs
  refine code_spec_middle.go [.roI a xs.length xs] ⟨⟨rfl, ha⟩, trivial⟩ (by simp) ?_
  unfold mc_spec_middle
  have e1 : ((((sortL xs).length : Int) - 1) / 2).toNat = (xs.length - 1) / 2 := by rw [hsl]; omega
  have e2 : (((sortL xs).length : Int) / 2).toNat = xs.length / 2 := by rw [hsl]; omega
  have k1 := hb.nth (by omega) ((((sortL xs).length : Int) - 1) / 2).toNat
  have k2 := hb.nth (by omega) (((sortL xs).length : Int) / 2).toNat
  (repeat (first | with_reducible (first | refine go_nil ?_ | refine gk_seq ?_ | refine gc_seq ?_ | refine gc_reg ?_ | refine gc_skip ?_ | refine gk_block ?_ | refine gc_block ?_ | refine gc_exit ?_ | refine gc_ret ?_ | refine gk_seqret ?_ | refine gk_seqexit ?_ | refine gk_blockret ?_ | refine gk_out ?_ | refine gk_loopret ?_ | refine gk_loopexit ?_ | refine gq_nil ?_) | (with_reducible refine gc_drq ?_; intro _) | (show GO _ _ _ _ _ (⟨some _, none, .call _ _⟩ :: _) _; first | (show GO _ _ _ _ _ (⟨some _, none, .call fn_spec_sorted _⟩ :: _) _; refine go_calln rfl code_spec_sorted.callable (fun H hH => specSorted_ok (hH.ints (by exact Has.auto)) (by omega)) ?_; intro u)) | (show GO _ _ _ _ _ (⟨some _, none, _⟩ :: _) _; first | refine go_op (hk := ?_) | (refine go_nw (hk := ?_); intro u; try simp only [List.length_cons, List.length_nil, List.nil_append, Nat.zero_add]) | (refine go_np (hk := ?_); intro id)) | (show GQ _ _ _ _ _ _ _ (⟨some _, none, _⟩ :: _) _; first | refine gq_op (hk := ?_) | (refine gq_nw (hk := ?_); intro u; try simp only [List.length_cons, List.length_nil, List.nil_append, Nat.zero_add])) | (show GO _ _ _ _ _ (⟨none, none, _⟩ :: _) _; refine go_st (hk := ?_)) | (show GO _ _ _ _ _ (⟨_, some _, _⟩ :: _) _; first | refine go_in (hk := ?_) | refine go_out (hk := ?_) | refine go_void (hk := ?_)) | (show GQ _ _ _ _ _ _ _ (⟨_, some _, _⟩ :: _) _; first | refine gq_in (hk := ?_) | refine gq_out (hk := ?_) | refine gq_void (hk := ?_)) | (show GK _ _ _ _ (blockK _ _ _); refine gk_past rfl ?_) | (show GC _ _ _ _ _ (.cond _ _ _) _; first | refine gc_yes (h1 := ?_) | refine gc_no (h1 := ?_))))
  refine gk_ret rfl fun H' hH => ⟨?_, hH.leE⟩
  simp only [tupleOf, midL, e1, e2]

/- sums of pairs, differences -/

def shS (xs ys : List Int) : Nat → List Int
  | 0 => []
  | i + 1 => shS xs ys i ++ tabZ ys.length fun k => nth ys k - nth xs i

theorem shS_len (xs ys : List Int) : ∀ i, (shS xs ys i).length = i * ys.length
  | 0 => by simp [shS]
  | i + 1 => by rw [shS, List.length_append, tabZ_len, shS_len xs ys i, Nat.add_mul]; omega

theorem tabZ_bd {b : Int} {n : Nat} {f : Nat → Int} (h : ∀ i, i < n → -b ≤ f i ∧ f i ≤ b) : Bd b (tabZ n f) := by
  intro x hx
  unfold tabZ at hx
  obtain ⟨i, h1, rfl⟩ := List.mem_map.1 hx
  exact h i (List.mem_range.1 h1)

theorem shS_bd {xs ys : List Int} (h : Bd 200 xs) (h' : Bd 200 ys) : ∀ i, Bd 400 (shS xs ys i)
  | 0 => by simp [Bd, shS]
  | i + 1 => (shS_bd h h' i).app (tabZ_bd fun k _ => by
    have := h.nth (by omega) i
    have := h'.nth (by omega) k
    omega)

theorem Bd.mono' {b c : Int} {xs : List Int} (h : Bd b xs) (hbc : b ≤ c) : Bd c xs := fun x hx => by have := h x hx; omega

noncomputable def smA (xs ys : List Int) : Int := if Samples xs ys then midL (shS xs ys xs.length) else 0

theorem specShiftMiddle_ok {H : Heap} {a b : AV} {xs ys : List Int} (ha : Ints H a xs) (hb : Ints H b ys) (hl : xs.length ≤ 1000000000) (hl' : ys.length ≤ 1000000000) :
    ACalls Try.prog fn_spec_ShiftMiddle [a, b] H fun r H' => r = .tuple [.int .i64 (smA xs ys), .bool (decide (Samples xs ys))] ∧ H' = H := by
  refine ACalls.val ?_ rfl
  refine code_spec_ShiftMiddle.go [.roI a xs.length xs, .roI b ys.length ys] ⟨⟨rfl, ha⟩, ⟨rfl, hb⟩, trivial⟩ (by simp) ?_
  unfold mc_spec_ShiftMiddle
  (repeat (first | with_reducible (first | refine go_nil ?_ | refine gk_seq ?_ | refine gc_seq ?_ | refine gc_reg ?_ | refine gc_skip ?_ | refine gk_block ?_ | refine gc_block ?_ | refine gc_exit ?_ | refine gc_ret ?_ | refine gk_seqret ?_ | refine gk_seqexit ?_ | refine gk_blockret ?_ | refine gk_out ?_ | refine gk_loopret ?_ | refine gk_loopexit ?_ | refine gd_nil ?_) | (with_reducible first | (refine gc_drw ?_; intro _) | (refine gc_drw2 ?_; intro _)) | (show GO _ _ _ _ _ (⟨some _, none, .call _ _⟩ :: _) _; first | (show GO _ _ _ _ _ (⟨some _, none, .call fn_spec_validSamples _⟩ :: _) _; refine go_specSamples (hk := ?_); try intro u) | (show GO _ _ _ _ _ (⟨some _, none, .call fn_spec_middle _⟩ :: _) _; refine go_callp rfl code_spec_middle.callable (fun H hH => specMiddle_ok (hH.ints (by exact Has.auto)) (by assumption) (by omega)) ?_)) | (show GO _ _ _ _ _ (⟨some _, none, _⟩ :: _) _; first | refine go_op (hk := ?_) | (refine go_nw (hk := ?_); intro u; try simp only [List.length_cons, List.length_nil, List.nil_append, Nat.zero_add]) | (refine go_np (hk := ?_); intro id)) | (show GD _ _ _ _ _ _ (⟨some _, none, _⟩ :: _) _; first | refine gd_op (hk := ?_) | (refine gd_nw (hk := ?_); intro u; try simp only [List.length_cons, List.length_nil, List.nil_append, Nat.zero_add])) | (show GD2 _ _ _ _ _ _ _ _ _ _ _ _ _; first | refine gd2_nil rfl ?_ | refine gd2_op (hk := ?_) | (refine gd2_nw (hk := ?_); intro u; try simp only [List.length_cons, List.length_nil, List.nil_append, Nat.zero_add]) | refine gd2_l (hk := ?_) | (refine gd2_bsl rfl rfl ?_; intro u; try simp only [List.length_cons, List.length_nil, List.nil_append, Nat.zero_add]) | (refine gd2_a (hk := ?_); intro u; try simp only [List.length_cons, List.length_nil, List.nil_append, Nat.zero_add])) | (show GO _ _ _ _ _ (⟨none, none, _⟩ :: _) _; refine go_st (hk := ?_)) | (show GD _ _ _ _ _ _ (⟨none, none, _⟩ :: _) _; refine gd_st (hk := ?_)) | (show GO _ _ _ _ _ (⟨_, some _, _⟩ :: _) _; first | refine go_in (hk := ?_) | refine go_out (hk := ?_) | refine go_void (hk := ?_)) | (show GK _ _ _ _ (blockK _ _ _); refine gk_past rfl ?_) | (show GC _ _ _ _ _ (.cond _ _ _) _; first | refine gc_yes (h1 := ?_) | refine gc_no (h1 := ?_))))
  refine gc_cond rfl (fun h => ?_) (fun h => ?_)
  · (repeat (first | with_reducible (first | refine go_nil ?_ | refine gk_seq ?_ | refine gc_seq ?_ | refine gc_reg ?_ | refine gc_skip ?_ | refine gk_block ?_ | refine gc_block ?_ | refine gc_exit ?_ | refine gc_ret ?_ | refine gk_seqret ?_ | refine gk_seqexit ?_ | refine gk_blockret ?_ | refine gk_out ?_ | refine gk_loopret ?_ | refine gk_loopexit ?_ | refine gd_nil ?_) | (with_reducible first | (refine gc_drw ?_; intro _) | (refine gc_drw2 ?_; intro _)) | (show GO _ _ _ _ _ (⟨some _, none, .call _ _⟩ :: _) _; first | (show GO _ _ _ _ _ (⟨some _, none, .call fn_spec_validSamples _⟩ :: _) _; refine go_specSamples (hk := ?_); try intro u) | (show GO _ _ _ _ _ (⟨some _, none, .call fn_spec_middle _⟩ :: _) _; refine go_callp rfl code_spec_middle.callable (fun H hH => specMiddle_ok (hH.ints (by exact Has.auto)) (by assumption) (by omega)) ?_)) | (show GO _ _ _ _ _ (⟨some _, none, _⟩ :: _) _; first | refine go_op (hk := ?_) | (refine go_nw (hk := ?_); intro u; try simp only [List.length_cons, List.length_nil, List.nil_append, Nat.zero_add]) | (refine go_np (hk := ?_); intro id)) | (show GD _ _ _ _ _ _ (⟨some _, none, _⟩ :: _) _; first | refine gd_op (hk := ?_) | (refine gd_nw (hk := ?_); intro u; try simp only [List.length_cons, List.length_nil, List.nil_append, Nat.zero_add])) | (show GD2 _ _ _ _ _ _ _ _ _ _ _ _ _; first | refine gd2_nil rfl ?_ | refine gd2_op (hk := ?_) | (refine gd2_nw (hk := ?_); intro u; try simp only [List.length_cons, List.length_nil, List.nil_append, Nat.zero_add]) | refine gd2_l (hk := ?_) | (refine gd2_bsl rfl rfl ?_; intro u; try simp only [List.length_cons, List.length_nil, List.nil_append, Nat.zero_add]) | (refine gd2_a (hk := ?_); intro u; try simp only [List.length_cons, List.length_nil, List.nil_append, Nat.zero_add])) | (show GO _ _ _ _ _ (⟨none, none, _⟩ :: _) _; refine go_st (hk := ?_)) | (show GD _ _ _ _ _ _ (⟨none, none, _⟩ :: _) _; refine gd_st (hk := ?_)) | (show GO _ _ _ _ _ (⟨_, some _, _⟩ :: _) _; first | refine go_in (hk := ?_) | refine go_out (hk := ?_) | refine go_void (hk := ?_)) | (show GK _ _ _ _ (blockK _ _ _); refine gk_past rfl ?_) | (show GC _ _ _ _ _ (.cond _ _ _) _; first | refine gc_yes (h1 := ?_) | refine gc_no (h1 := ?_))))
    exact gk_ret rfl fun H' hH => ⟨by simp [tupleOf, smA, h], hH.leE⟩
  have hs : Samples xs ys := Decidable.not_not.1 h
  have hs' := hs
  obtain ⟨⟨hd1, hd2⟩, h3, h4, h5⟩ := hs'
  have hlen := shS_len xs ys
  have hmul : xs.length * ys.length ≤ 10 * 10 := Nat.mul_le_mul (by omega) (by omega)
  have hpos : 0 < xs.length * ys.length := Nat.mul_pos h4 h5
  (repeat (first | with_reducible (first | refine go_nil ?_ | refine gk_seq ?_ | refine gc_seq ?_ | refine gc_reg ?_ | refine gc_skip ?_ | refine gk_block ?_ | refine gc_block ?_ | refine gc_exit ?_ | refine gc_ret ?_ | refine gk_seqret ?_ | refine gk_seqexit ?_ | refine gk_blockret ?_ | refine gk_out ?_ | refine gk_loopret ?_ | refine gk_loopexit ?_ | refine gd_nil ?_) | (with_reducible first | (refine gc_drw ?_; intro _) | (refine gc_drw2 ?_; intro _)) | (show GO _ _ _ _ _ (⟨some _, none, .call _ _⟩ :: _) _; first | (show GO _ _ _ _ _ (⟨some _, none, .call fn_spec_validSamples _⟩ :: _) _; refine go_specSamples (hk := ?_); try intro u) | (show GO _ _ _ _ _ (⟨some _, none, .call fn_spec_middle _⟩ :: _) _; refine go_callp rfl code_spec_middle.callable (fun H hH => specMiddle_ok (hH.ints (by exact Has.auto)) (by assumption) (by omega)) ?_)) | (show GO _ _ _ _ _ (⟨some _, none, _⟩ :: _) _; first | refine go_op (hk := ?_) | (refine go_nw (hk := ?_); intro u; try simp only [List.length_cons, List.length_nil, List.nil_append, Nat.zero_add]) | (refine go_np (hk := ?_); intro id)) | (show GD _ _ _ _ _ _ (⟨some _, none, _⟩ :: _) _; first | refine gd_op (hk := ?_) | (refine gd_nw (hk := ?_); intro u; try simp only [List.length_cons, List.length_nil, List.nil_append, Nat.zero_add])) | (show GD2 _ _ _ _ _ _ _ _ _ _ _ _ _; first | refine gd2_nil rfl ?_ | refine gd2_op (hk := ?_) | (refine gd2_nw (hk := ?_); intro u; try simp only [List.length_cons, List.length_nil, List.nil_append, Nat.zero_add]) | refine gd2_l (hk := ?_) | (refine gd2_bsl rfl rfl ?_; intro u; try simp only [List.length_cons, List.length_nil, List.nil_append, Nat.zero_add]) | (refine gd2_a (hk := ?_); intro u; try simp only [List.length_cons, List.length_nil, List.nil_append, Nat.zero_add])) | (show GO _ _ _ _ _ (⟨none, none, _⟩ :: _) _; refine go_st (hk := ?_)) | (show GD _ _ _ _ _ _ (⟨none, none, _⟩ :: _) _; refine gd_st (hk := ?_)) | (show GO _ _ _ _ _ (⟨_, some _, _⟩ :: _) _; first | refine go_in (hk := ?_) | refine go_out (hk := ?_) | refine go_void (hk := ?_)) | (show GK _ _ _ _ (blockK _ _ _); refine gk_past rfl ?_) | (show GC _ _ _ _ _ (.cond _ _ _) _; first | refine gc_yes (h1 := ?_) | refine gc_no (h1 := ?_))))
  refine gc_upv xs.length (fun i u => [(0, a), (1, b), (6, u), (7, .int .i64 (i : Int))]) (fun i u => [.rwI u (shS xs ys i).length (shS xs ys i), .roI a xs.length xs, .roI b ys.length ys]) u (hb := ?_)
  intro i u hi I ν m hk
  have hii : i * ys.length ≤ 10 * 10 := Nat.mul_le_mul (by omega) (by omega)
  have hli := hlen i
  (repeat (first | with_reducible (first | refine go_nil ?_ | refine gk_seq ?_ | refine gc_seq ?_ | refine gc_reg ?_ | refine gc_skip ?_ | refine gk_block ?_ | refine gc_block ?_ | refine gc_exit ?_ | refine gc_ret ?_ | refine gk_seqret ?_ | refine gk_seqexit ?_ | refine gk_blockret ?_ | refine gk_out ?_ | refine gk_loopret ?_ | refine gk_loopexit ?_ | refine gd_nil ?_) | (with_reducible first | (refine gc_drw ?_; intro _) | (refine gc_drw2 ?_; intro _)) | (show GO _ _ _ _ _ (⟨some _, none, .call _ _⟩ :: _) _; first | (show GO _ _ _ _ _ (⟨some _, none, .call fn_spec_validSamples _⟩ :: _) _; refine go_specSamples (hk := ?_); try intro u) | (show GO _ _ _ _ _ (⟨some _, none, .call fn_spec_middle _⟩ :: _) _; refine go_callp rfl code_spec_middle.callable (fun H hH => specMiddle_ok (hH.ints (by exact Has.auto)) (by assumption) (by omega)) ?_)) | (show GO _ _ _ _ _ (⟨some _, none, _⟩ :: _) _; first | refine go_op (hk := ?_) | (refine go_nw (hk := ?_); intro u; try simp only [List.length_cons, List.length_nil, List.nil_append, Nat.zero_add]) | (refine go_np (hk := ?_); intro id)) | (show GD _ _ _ _ _ _ (⟨some _, none, _⟩ :: _) _; first | refine gd_op (hk := ?_) | (refine gd_nw (hk := ?_); intro u; try simp only [List.length_cons, List.length_nil, List.nil_append, Nat.zero_add])) | (show GD2 _ _ _ _ _ _ _ _ _ _ _ _ _; first | refine gd2_nil rfl ?_ | refine gd2_op (hk := ?_) | (refine gd2_nw (hk := ?_); intro u; try simp only [List.length_cons, List.length_nil, List.nil_append, Nat.zero_add]) | refine gd2_l (hk := ?_) | (refine gd2_bsl rfl rfl ?_; intro u; try simp only [List.length_cons, List.length_nil, List.nil_append, Nat.zero_add]) | (refine gd2_a (hk := ?_); intro u; try simp only [List.length_cons, List.length_nil, List.nil_append, Nat.zero_add])) | (show GO _ _ _ _ _ (⟨none, none, _⟩ :: _) _; refine go_st (hk := ?_)) | (show GD _ _ _ _ _ _ (⟨none, none, _⟩ :: _) _; refine gd_st (hk := ?_)) | (show GO _ _ _ _ _ (⟨_, some _, _⟩ :: _) _; first | refine go_in (hk := ?_) | refine go_out (hk := ?_) | refine go_void (hk := ?_)) | (show GK _ _ _ _ (blockK _ _ _); refine gk_past rfl ?_) | (show GC _ _ _ _ _ (.cond _ _ _) _; first | refine gc_yes (h1 := ?_) | refine gc_no (h1 := ?_))))
  refine gc_cond rfl (fun h => ?_) (fun h => ?_)
  · have hk := hk (by omega)
    rw [shS, List.length_append, tabZ_len] at hk
    (repeat (first | with_reducible (first | refine go_nil ?_ | refine gk_seq ?_ | refine gc_seq ?_ | refine gc_reg ?_ | refine gc_skip ?_ | refine gk_block ?_ | refine gc_block ?_ | refine gc_exit ?_ | refine gc_ret ?_ | refine gk_seqret ?_ | refine gk_seqexit ?_ | refine gk_blockret ?_ | refine gk_out ?_ | refine gk_loopret ?_ | refine gk_loopexit ?_ | refine gd_nil ?_) | (with_reducible first | (refine gc_drw ?_; intro _) | (refine gc_drw2 ?_; intro _)) | (show GO _ _ _ _ _ (⟨some _, none, .call _ _⟩ :: _) _; first | (show GO _ _ _ _ _ (⟨some _, none, .call fn_spec_validSamples _⟩ :: _) _; refine go_specSamples (hk := ?_); try intro u) | (show GO _ _ _ _ _ (⟨some _, none, .call fn_spec_middle _⟩ :: _) _; refine go_callp rfl code_spec_middle.callable (fun H hH => specMiddle_ok (hH.ints (by exact Has.auto)) (by assumption) (by omega)) ?_)) | (show GO _ _ _ _ _ (⟨some _, none, _⟩ :: _) _; first | refine go_op (hk := ?_) | (refine go_nw (hk := ?_); intro u; try simp only [List.length_cons, List.length_nil, List.nil_append, Nat.zero_add]) | (refine go_np (hk := ?_); intro id)) | (show GD _ _ _ _ _ _ (⟨some _, none, _⟩ :: _) _; first | refine gd_op (hk := ?_) | (refine gd_nw (hk := ?_); intro u; try simp only [List.length_cons, List.length_nil, List.nil_append, Nat.zero_add])) | (show GD2 _ _ _ _ _ _ _ _ _ _ _ _ _; first | refine gd2_nil rfl ?_ | refine gd2_op (hk := ?_) | (refine gd2_nw (hk := ?_); intro u; try simp only [List.length_cons, List.length_nil, List.nil_append, Nat.zero_add]) | refine gd2_l (hk := ?_) | (refine gd2_bsl rfl rfl ?_; intro u; try simp only [List.length_cons, List.length_nil, List.nil_append, Nat.zero_add]) | (refine gd2_a (hk := ?_); intro u; try simp only [List.length_cons, List.length_nil, List.nil_append, Nat.zero_add])) | (show GO _ _ _ _ _ (⟨none, none, _⟩ :: _) _; refine go_st (hk := ?_)) | (show GD _ _ _ _ _ _ (⟨none, none, _⟩ :: _) _; refine gd_st (hk := ?_)) | (show GO _ _ _ _ _ (⟨_, some _, _⟩ :: _) _; first | refine go_in (hk := ?_) | refine go_out (hk := ?_) | refine go_void (hk := ?_)) | (show GK _ _ _ _ (blockK _ _ _); refine gk_past rfl ?_) | (show GC _ _ _ _ _ (.cond _ _ _) _; first | refine gc_yes (h1 := ?_) | refine gc_no (h1 := ?_))))
    refine gc_upv ys.length (fun k u => [(0, a), (1, b), (6, u), (7, .int .i64 (i : Int)), (8, .int .i64 (k : Int))]) (fun k u => [.rwI u ((shS xs ys i).length + k) (shS xs ys i ++ tabZ k fun k => nth ys k - nth xs i), .roI a xs.length xs, .roI b ys.length ys]) u (hS := by simp only [tabZ, List.range_zero, List.map_nil, List.append_nil, Nat.add_zero]; exact Sub.auto) (hb := ?_)
    intro k u hk1 I2 ν2 m2 hk2
    (repeat (first | with_reducible (first | refine go_nil ?_ | refine gk_seq ?_ | refine gc_seq ?_ | refine gc_reg ?_ | refine gc_skip ?_ | refine gk_block ?_ | refine gc_block ?_ | refine gc_exit ?_ | refine gc_ret ?_ | refine gk_seqret ?_ | refine gk_seqexit ?_ | refine gk_blockret ?_ | refine gk_out ?_ | refine gk_loopret ?_ | refine gk_loopexit ?_ | refine gd_nil ?_) | (with_reducible first | (refine gc_drw ?_; intro _) | (refine gc_drw2 ?_; intro _)) | (show GO _ _ _ _ _ (⟨some _, none, .call _ _⟩ :: _) _; first | (show GO _ _ _ _ _ (⟨some _, none, .call fn_spec_validSamples _⟩ :: _) _; refine go_specSamples (hk := ?_); try intro u) | (show GO _ _ _ _ _ (⟨some _, none, .call fn_spec_middle _⟩ :: _) _; refine go_callp rfl code_spec_middle.callable (fun H hH => specMiddle_ok (hH.ints (by exact Has.auto)) (by assumption) (by omega)) ?_)) | (show GO _ _ _ _ _ (⟨some _, none, _⟩ :: _) _; first | refine go_op (hk := ?_) | (refine go_nw (hk := ?_); intro u; try simp only [List.length_cons, List.length_nil, List.nil_append, Nat.zero_add]) | (refine go_np (hk := ?_); intro id)) | (show GD _ _ _ _ _ _ (⟨some _, none, _⟩ :: _) _; first | refine gd_op (hk := ?_) | (refine gd_nw (hk := ?_); intro u; try simp only [List.length_cons, List.length_nil, List.nil_append, Nat.zero_add])) | (show GD2 _ _ _ _ _ _ _ _ _ _ _ _ _; first | refine gd2_nil rfl ?_ | refine gd2_op (hk := ?_) | (refine gd2_nw (hk := ?_); intro u; try simp only [List.length_cons, List.length_nil, List.nil_append, Nat.zero_add]) | refine gd2_l (hk := ?_) | (refine gd2_bsl rfl rfl ?_; intro u; try simp only [List.length_cons, List.length_nil, List.nil_append, Nat.zero_add]) | (refine gd2_a (hk := ?_); intro u; try simp only [List.length_cons, List.length_nil, List.nil_append, Nat.zero_add])) | (show GO _ _ _ _ _ (⟨none, none, _⟩ :: _) _; refine go_st (hk := ?_)) | (show GD _ _ _ _ _ _ (⟨none, none, _⟩ :: _) _; refine gd_st (hk := ?_)) | (show GO _ _ _ _ _ (⟨_, some _, _⟩ :: _) _; first | refine go_in (hk := ?_) | refine go_out (hk := ?_) | refine go_void (hk := ?_)) | (show GK _ _ _ _ (blockK _ _ _); refine gk_past rfl ?_) | (show GC _ _ _ _ _ (.cond _ _ _) _; first | refine gc_yes (h1 := ?_) | refine gc_no (h1 := ?_))))
    refine gc_cond rfl (fun h2 => ?_) (fun h2 => ?_)
    · have hk2 := hk2 (by omega)
      rw [tabZ_succ, ← List.append_assoc] at hk2
      have b1 := hd1.bd.nth (by omega) i
      have b2 := hd2.bd.nth (by omega) k
      (repeat (first | with_reducible (first | refine go_nil ?_ | refine gk_seq ?_ | refine gc_seq ?_ | refine gc_reg ?_ | refine gc_skip ?_ | refine gk_block ?_ | refine gc_block ?_ | refine gc_exit ?_ | refine gc_ret ?_ | refine gk_seqret ?_ | refine gk_seqexit ?_ | refine gk_blockret ?_ | refine gk_out ?_ | refine gk_loopret ?_ | refine gk_loopexit ?_ | refine gd_nil ?_) | (with_reducible first | (refine gc_drw ?_; intro _) | (refine gc_drw2 ?_; intro _)) | (show GO _ _ _ _ _ (⟨some _, none, .call _ _⟩ :: _) _; first | (show GO _ _ _ _ _ (⟨some _, none, .call fn_spec_validSamples _⟩ :: _) _; refine go_specSamples (hk := ?_); try intro u) | (show GO _ _ _ _ _ (⟨some _, none, .call fn_spec_middle _⟩ :: _) _; refine go_callp rfl code_spec_middle.callable (fun H hH => specMiddle_ok (hH.ints (by exact Has.auto)) (by assumption) (by omega)) ?_)) | (show GO _ _ _ _ _ (⟨some _, none, _⟩ :: _) _; first | refine go_op (hk := ?_) | (refine go_nw (hk := ?_); intro u; try simp only [List.length_cons, List.length_nil, List.nil_append, Nat.zero_add]) | (refine go_np (hk := ?_); intro id)) | (show GD _ _ _ _ _ _ (⟨some _, none, _⟩ :: _) _; first | refine gd_op (hk := ?_) | (refine gd_nw (hk := ?_); intro u; try simp only [List.length_cons, List.length_nil, List.nil_append, Nat.zero_add])) | (show GD2 _ _ _ _ _ _ _ _ _ _ _ _ _; first | refine gd2_nil rfl ?_ | refine gd2_op (hk := ?_) | (refine gd2_nw (hk := ?_); intro u; try simp only [List.length_cons, List.length_nil, List.nil_append, Nat.zero_add]) | refine gd2_l (hk := ?_) | (refine gd2_bsl rfl rfl ?_; intro u; try simp only [List.length_cons, List.length_nil, List.nil_append, Nat.zero_add]) | (refine gd2_a (hk := ?_); intro u; try simp only [List.length_cons, List.length_nil, List.nil_append, Nat.zero_add])) | (show GO _ _ _ _ _ (⟨none, none, _⟩ :: _) _; refine go_st (hk := ?_)) | (show GD _ _ _ _ _ _ (⟨none, none, _⟩ :: _) _; refine gd_st (hk := ?_)) | (show GO _ _ _ _ _ (⟨_, some _, _⟩ :: _) _; first | refine go_in (hk := ?_) | refine go_out (hk := ?_) | refine go_void (hk := ?_)) | (show GK _ _ _ _ (blockK _ _ _); refine gk_past rfl ?_) | (show GC _ _ _ _ _ (.cond _ _ _) _; first | refine gc_yes (h1 := ?_) | refine gc_no (h1 := ?_))))
      exact gk_next (hk2 _)
    · have : k = ys.length := by omega
      subst this
      (repeat (first | with_reducible (first | refine go_nil ?_ | refine gk_seq ?_ | refine gc_seq ?_ | refine gc_reg ?_ | refine gc_skip ?_ | refine gk_block ?_ | refine gc_block ?_ | refine gc_exit ?_ | refine gc_ret ?_ | refine gk_seqret ?_ | refine gk_seqexit ?_ | refine gk_blockret ?_ | refine gk_out ?_ | refine gk_loopret ?_ | refine gk_loopexit ?_ | refine gd_nil ?_) | (with_reducible first | (refine gc_drw ?_; intro _) | (refine gc_drw2 ?_; intro _)) | (show GO _ _ _ _ _ (⟨some _, none, .call _ _⟩ :: _) _; first | (show GO _ _ _ _ _ (⟨some _, none, .call fn_spec_validSamples _⟩ :: _) _; refine go_specSamples (hk := ?_); try intro u) | (show GO _ _ _ _ _ (⟨some _, none, .call fn_spec_middle _⟩ :: _) _; refine go_callp rfl code_spec_middle.callable (fun H hH => specMiddle_ok (hH.ints (by exact Has.auto)) (by assumption) (by omega)) ?_)) | (show GO _ _ _ _ _ (⟨some _, none, _⟩ :: _) _; first | refine go_op (hk := ?_) | (refine go_nw (hk := ?_); intro u; try simp only [List.length_cons, List.length_nil, List.nil_append, Nat.zero_add]) | (refine go_np (hk := ?_); intro id)) | (show GD _ _ _ _ _ _ (⟨some _, none, _⟩ :: _) _; first | refine gd_op (hk := ?_) | (refine gd_nw (hk := ?_); intro u; try simp only [List.length_cons, List.length_nil, List.nil_append, Nat.zero_add])) | (show GD2 _ _ _ _ _ _ _ _ _ _ _ _ _; first | refine gd2_nil rfl ?_ | refine gd2_op (hk := ?_) | (refine gd2_nw (hk := ?_); intro u; try simp only [List.length_cons, List.length_nil, List.nil_append, Nat.zero_add]) | refine gd2_l (hk := ?_) | (refine gd2_bsl rfl rfl ?_; intro u; try simp only [List.length_cons, List.length_nil, List.nil_append, Nat.zero_add]) | (refine gd2_a (hk := ?_); intro u; try simp only [List.length_cons, List.length_nil, List.nil_append, Nat.zero_add])) | (show GO _ _ _ _ _ (⟨none, none, _⟩ :: _) _; refine go_st (hk := ?_)) | (show GD _ _ _ _ _ _ (⟨none, none, _⟩ :: _) _; refine gd_st (hk := ?_)) | (show GO _ _ _ _ _ (⟨_, some _, _⟩ :: _) _; first | refine go_in (hk := ?_) | refine go_out (hk := ?_) | refine go_void (hk := ?_)) | (show GK _ _ _ _ (blockK _ _ _); refine gk_past rfl ?_) | (show GC _ _ _ _ _ (.cond _ _ _) _; first | refine gc_yes (h1 := ?_) | refine gc_no (h1 := ?_))))
      exact gk_next (hk _)
  · have : i = xs.length := by omega
    subst this
    (repeat (first | with_reducible (first | refine go_nil ?_ | refine gk_seq ?_ | refine gc_seq ?_ | refine gc_reg ?_ | refine gc_skip ?_ | refine gk_block ?_ | refine gc_block ?_ | refine gc_exit ?_ | refine gc_ret ?_ | refine gk_seqret ?_ | refine gk_seqexit ?_ | refine gk_blockret ?_ | refine gk_out ?_ | refine gk_loopret ?_ | refine gk_loopexit ?_ | refine gd_nil ?_) | (with_reducible first | (refine gc_drw ?_; intro _) | (refine gc_drw2 ?_; intro _)) | (show GO _ _ _ _ _ (⟨some _, none, .call _ _⟩ :: _) _; first | (show GO _ _ _ _ _ (⟨some _, none, .call fn_spec_validSamples _⟩ :: _) _; refine go_specSamples (hk := ?_); try intro u) | (show GO _ _ _ _ _ (⟨some _, none, .call fn_spec_middle _⟩ :: _) _; refine go_callp rfl code_spec_middle.callable (fun H hH => specMiddle_ok (hH.ints (by exact Has.auto)) (by assumption) (by omega)) ?_)) | (show GO _ _ _ _ _ (⟨some _, none, _⟩ :: _) _; first | refine go_op (hk := ?_) | (refine go_nw (hk := ?_); intro u; try simp only [List.length_cons, List.length_nil, List.nil_append, Nat.zero_add]) | (refine go_np (hk := ?_); intro id)) | (show GD _ _ _ _ _ _ (⟨some _, none, _⟩ :: _) _; first | refine gd_op (hk := ?_) | (refine gd_nw (hk := ?_); intro u; try simp only [List.length_cons, List.length_nil, List.nil_append, Nat.zero_add])) | (show GD2 _ _ _ _ _ _ _ _ _ _ _ _ _; first | refine gd2_nil rfl ?_ | refine gd2_op (hk := ?_) | (refine gd2_nw (hk := ?_); intro u; try simp only [List.length_cons, List.length_nil, List.nil_append, Nat.zero_add]) | refine gd2_l (hk := ?_) | (refine gd2_bsl rfl rfl ?_; intro u; try simp only [List.length_cons, List.length_nil, List.nil_append, Nat.zero_add]) | (refine gd2_a (hk := ?_); intro u; try simp only [List.length_cons, List.length_nil, List.nil_append, Nat.zero_add])) | (show GO _ _ _ _ _ (⟨none, none, _⟩ :: _) _; refine go_st (hk := ?_)) | (show GD _ _ _ _ _ _ (⟨none, none, _⟩ :: _) _; refine gd_st (hk := ?_)) | (show GO _ _ _ _ _ (⟨_, some _, _⟩ :: _) _; first | refine go_in (hk := ?_) | refine go_out (hk := ?_) | refine go_void (hk := ?_)) | (show GK _ _ _ _ (blockK _ _ _); refine gk_past rfl ?_) | (show GC _ _ _ _ _ (.cond _ _ _) _; first | refine gc_yes (h1 := ?_) | refine gc_no (h1 := ?_))))
    refine go_callp rfl code_spec_middle.callable (fun H hH => specMiddleB_ok (hH.ints (by exact Has.auto)) ((shS_bd hd1.bd hd2.bd _).mono' (by omega)) (by omega) (by omega)) ?_
    (repeat (first | with_reducible (first | refine go_nil ?_ | refine gk_seq ?_ | refine gc_seq ?_ | refine gc_reg ?_ | refine gc_skip ?_ | refine gk_block ?_ | refine gc_block ?_ | refine gc_exit ?_ | refine gc_ret ?_ | refine gk_seqret ?_ | refine gk_seqexit ?_ | refine gk_blockret ?_ | refine gk_out ?_ | refine gk_loopret ?_ | refine gk_loopexit ?_ | refine gd_nil ?_) | (with_reducible first | (refine gc_drw ?_; intro _) | (refine gc_drw2 ?_; intro _)) | (show GO _ _ _ _ _ (⟨some _, none, .call _ _⟩ :: _) _; first | (show GO _ _ _ _ _ (⟨some _, none, .call fn_spec_validSamples _⟩ :: _) _; refine go_specSamples (hk := ?_); try intro u) | (show GO _ _ _ _ _ (⟨some _, none, .call fn_spec_middle _⟩ :: _) _; refine go_callp rfl code_spec_middle.callable (fun H hH => specMiddle_ok (hH.ints (by exact Has.auto)) (by assumption) (by omega)) ?_)) | (show GO _ _ _ _ _ (⟨some _, none, _⟩ :: _) _; first | refine go_op (hk := ?_) | (refine go_nw (hk := ?_); intro u; try simp only [List.length_cons, List.length_nil, List.nil_append, Nat.zero_add]) | (refine go_np (hk := ?_); intro id)) | (show GD _ _ _ _ _ _ (⟨some _, none, _⟩ :: _) _; first | refine gd_op (hk := ?_) | (refine gd_nw (hk := ?_); intro u; try simp only [List.length_cons, List.length_nil, List.nil_append, Nat.zero_add])) | (show GD2 _ _ _ _ _ _ _ _ _ _ _ _ _; first | refine gd2_nil rfl ?_ | refine gd2_op (hk := ?_) | (refine gd2_nw (hk := ?_); intro u; try simp only [List.length_cons, List.length_nil, List.nil_append, Nat.zero_add]) | refine gd2_l (hk := ?_) | (refine gd2_bsl rfl rfl ?_; intro u; try simp only [List.length_cons, List.length_nil, List.nil_append, Nat.zero_add]) | (refine gd2_a (hk := ?_); intro u; try simp only [List.length_cons, List.length_nil, List.nil_append, Nat.zero_add])) | (show GO _ _ _ _ _ (⟨none, none, _⟩ :: _) _; refine go_st (hk := ?_)) | (show GD _ _ _ _ _ _ (⟨none, none, _⟩ :: _) _; refine gd_st (hk := ?_)) | (show GO _ _ _ _ _ (⟨_, some _, _⟩ :: _) _; first | refine go_in (hk := ?_) | refine go_out (hk := ?_) | refine go_void (hk := ?_)) | (show GK _ _ _ _ (blockK _ _ _); refine gk_past rfl ?_) | (show GC _ _ _ _ _ (.cond _ _ _) _; first | refine gc_yes (h1 := ?_) | refine gc_no (h1 := ?_))))
    exact gk_ret rfl fun H' hH => ⟨by simp [tupleOf, smA, hs], hH.leE⟩

/- ways within a bound -/

def DrOk (p : List Int × List Int) (B : Nat) : Prop := p.2.length = p.1.length ∧ p.1.length ≤ B ∧ ∀ x ∈ p.2, 0 ≤ x ∧ x ≤ (B : Int)

theorem DrOk.mono {p : List Int × List Int} {B C : Nat} (h : DrOk p B) (hc : B ≤ C) : DrOk p C := ⟨h.1, by have := h.2.1; omega, fun x hx => by have := h.2.2 x hx; omega⟩

theorem mid_perm {xs ys : List Int} (h : xs.Perm ys) : midL xs = midL ys := by
  have e : sortL xs = sortL ys := by
    refine List.Perm.eq_of_pairwise (le := (· ≤ ·)) (fun a b _ _ h1 h2 => Int.le_antisymm h1 h2) (sortL_up _) (sortL_up _) ?_
    exact ((sortL_perm xs).trans h).trans (sortL_perm ys).symm
  unfold midL
  rw [e, h.length_eq]

def grd (f : Nat → Nat → Int) (m : Nat) : Nat → List Int
  | 0 => []
  | n + 1 => grd f m n ++ tabZ m (f n)

theorem grd_zero (f : Nat → Nat → Int) : ∀ n, grd f 0 n = []
  | 0 => rfl
  | n + 1 => by rw [grd, grd_zero f n]; rfl

theorem grd_col (f : Nat → Nat → Int) (m : Nat) : ∀ n, (grd f (m + 1) n).Perm (grd f m n ++ tabZ n fun i => f i m)
  | 0 => by simp [grd, tabZ]
  | n + 1 => by
    rw [grd, grd, tabZ_succ, tabZ_succ]
    have h := (grd_col f m n).append_right (tabZ m (f n) ++ [f n m])
    refine h.trans ?_
    simp only [List.append_assoc]
    refine List.Perm.append_left _ ?_
    rw [← List.append_assoc, ← List.append_assoc]
    exact List.perm_append_comm.append_right _

theorem grd_swap (f : Nat → Nat → Int) (m : Nat) : ∀ n, (grd f m n).Perm (grd (fun k i => f i k) n m)
  | 0 => by rw [grd_zero]; exact .refl _
  | n + 1 => by
    rw [grd]
    exact ((grd_swap f m n).append_right _).trans (grd_col (fun k i => f i k) n m).symm

theorem shS_grd (xs ys : List Int) : ∀ n, shS xs ys n = grd (fun i k => nth ys k - nth xs i) ys.length n
  | 0 => rfl
  | n + 1 => by rw [shS, grd, shS_grd xs ys n]

theorem grownRel {ι : Nat → Option Ref} {H : Heap} {w w' : World} (h : HRel ι H w) (hs : ∀ k, k < w.heap.size → w'.heap[k]? = w.heap[k]?) : HRel ι H w' := by
  refine ⟨h.fresh, fun id b hb => ?_, h.apart, fun id o hob => ?_, h.oapart, h.gl⟩
  · obtain ⟨r, hr, hB⟩ := h.blk id b hb
    refine ⟨r, hr, ?_⟩
    rcases hB.lt with h1 | h1
    · exact hB.keep (hs _ h1)
    · cases hrw : b.rw with
      | true => exact hB.keep (hs _ (h.row_lt hb hrw hr))
      | false =>
        unfold BlkRel
        rw [hrw]
        intro i a ha; rw [h1] at ha; simp at ha
  · obtain ⟨r, h1, h2, h3⟩ := h.obs id o hob
    exact ⟨r, h1, by rw [hs _ (h.ob_lt hob h1)]; exact h2, h3⟩

theorem ints_rel {ι : Nat → Option Ref} : ∀ ys : List Int, VRelL ι (ints ys) (ys.map (Value.int .i64))
  | [] => by simp [ints, VRelL]
  | y :: ys => by
    have := ints_rel (ι := ι) ys
    simp only [ints, List.map_cons, VRelL, VRel] at this ⊢
    exact ⟨_, _, rfl, rfl, this⟩

theorem ints_of {ι : Nat → Option Ref} : ∀ (ys : List Int) (vs : List Value), VRelL ι (ints ys) vs → vs = ys.map (Value.int .i64)
  | [], vs, h => by simpa [ints, VRelL] using h
  | y :: ys, vs, h => by
    simp only [ints, List.map_cons, VRelL, VRel] at h
    obtain ⟨v, r, rfl, rfl, h2⟩ := h
    rw [List.map_cons, ints_of ys r h2]

theorem merge_sort (xs : List Int) : (xs.mergeSort fun x y => decide (x ≤ y)) = sortL xs := by
  refine List.Perm.eq_of_pairwise (le := (· ≤ ·)) (fun a b _ _ h1 h2 => Int.le_antisymm h1 h2) ?_ (sortL_up _) ((List.mergeSort_perm _ _).trans (sortL_perm xs).symm)
  have := List.pairwise_mergeSort (le := fun x y : Int => decide (x ≤ y)) (fun a b c h1 h2 => by simp only [decide_eq_true_eq] at *; omega) (fun a b => by simp only [Bool.or_eq_true, decide_eq_true_eq]; omega) xs
  exact this.imp (fun h => by simpa using h)

theorem put_cells {d : List Int} {off : Nat} {c : Array Value} (h : off + d.length ≤ c.size) : ((Go.Sort.putCells (Value.int .i64) off d.toArray c).toList.drop off).take d.length = d.map (Value.int .i64) := by
  apply List.ext_getElem
  · simp [Go.Sort.putCells]; omega
  · intro i h1 h2
    simp only [List.length_map] at h2
    simp [Go.Sort.putCells, h2]

theorem sortAny_ok {A : Heap} {X : List Nat} {S S0 : Sig} {H : Heap} {v : AV} {xs : List Int} (hS : SOk A X S H.size H) (hs : Sel S (.rwI v xs.length xs) S0) (hl : xs.length < 4611686018427387904) :
    ACalls Try.prog fn_slices_Sort_ints [v] H fun r H' => ∃ g : Unit, r = .tuple [] ∧ SOk A X (.rwI v xs.length (sortL xs) :: S0) H'.size H' ∧ True := by
  by_cases h12 : xs.length ≤ 12
  · exact slicesSort_ok hS hs h12
  have hS' := hS.sel hs
  have hc := hS'.ch (.rwI v xs.length xs) (by simp)
  obtain ⟨hc1, hc2, hc3⟩ := hc
  simp only at hc1 hc2 hc3
  rcases hc3 with ⟨_, h0⟩ | ⟨id, rfl, hown, hg⟩
  · omega
  intro ι w us hh hu
  obtain ⟨val, r0, hus, hv, hr0⟩ := hu
  simp only [VRelL] at hr0; subst hr0
  simp only [VRel] at hv
  obtain ⟨r, a, c, hr, rfl, hnc, hcm, hcap, hplace⟩ := hv
  obtain ⟨rfl, hroom⟩ : a = ⟨r.row, r.off + 0, none⟩ ∧ 0 + c * 1 ≤ r.room := by
    rcases hplace with h | h
    · omega
    · exact h
  obtain ⟨r', hr', hB⟩ := hh.blk id _ hg
  rw [hr] at hr'; injection hr' with er; subst er
  unfold BlkRel at hB
  obtain ⟨cs, e, h1, h2, h3, h4⟩ := hB
  simp only [ints, List.length_map] at h3 h4
  have h5 := ints_of xs _ h4
  have hlt := (Array.getElem?_eq_some_iff.1 h1).1
  have hcell : ∀ j, j < xs.length → cs[r.off + j]? = some (.int .i64 (xs.toArray[j]!)) := by
    intro j hj
    have : (xs.map (Value.int .i64))[j]? = some (.int .i64 xs[j]) := by simp [hj]
    rw [← h5, List.getElem?_take_of_lt hj, List.getElem?_drop, Array.getElem?_toList] at this
    rw [this]
    simp [hj]
  have hholds : Go.Sort.Holds (Value.int .i64) w r.row r.off xs.toArray := by
    intro j hj
    simp only [List.size_toArray] at hj
    refine ⟨?_, ?_⟩
    · simp only [World.cell?, h1]
      simpa using hcell j hj
    · simp [World.frozen?, h1]
  obtain rfl : us = #[.slice (some ⟨r.row, r.off, none⟩) xs.length c] := by
    apply Array.ext'
    rw [hus]; simp
  refine (Any.slices_Sort_int sort_lays r.row r.off c xs w hholds hlt hl).mono ?_
  rintro en w' ⟨rfl, n, os, rfl⟩
  rw [merge_sort]
  have hsl := sortL_length xs
  have hg1 : (Go.Sort.putRow (Value.int .i64) (Go.Sort.ahead w n) r.row r.off (sortL xs).toArray).heap[r.row]? = some (.cells (Go.Sort.putCells (Value.int .i64) r.off (sortL xs).toArray cs) e (0, 0)) := by
    simp [Go.Sort.putRow, Go.Sort.mapBlock, Go.Sort.ahead, Array.getElem?_modify, h1, Go.Sort.onCells]
  have hsame : ∀ k, k ≠ r.row → (Go.Sort.putRow (Value.int .i64) (Go.Sort.ahead w n) r.row r.off (sortL xs).toArray).heap[k]? = w.heap[k]? := by
    intro k hk
    simp [Go.Sort.putRow, Go.Sort.mapBlock, Go.Sort.ahead, Array.getElem?_modify, Ne.symm hk]
  have hps : (Go.Sort.putCells (Value.int .i64) r.off (sortL xs).toArray cs).size = cs.size := by simp [Go.Sort.putCells]
  have hrel : HRel ι (H.put id (some ⟨true, ints (sortL xs)⟩)) (Go.Sort.putRow (Value.int .i64) (Go.Sort.ahead w n) r.row r.off (sortL xs).toArray) := by
    refine hh.rewrite hg rfl hr hg1 hsame (by rw [hps]; exact h2) (by simp only [ints, List.length_map]; omega) ?_
    have e1 : (ints (sortL xs)).length = (sortL xs).length := by simp [ints]
    rw [e1, put_cells (by omega)]
    exact ints_rel _
  have hsz : (Go.Sort.putRow (Value.int .i64) (Go.Sort.ahead w n) r.row r.off (sortL xs).toArray).heap.size = w.heap.size := by simp [Go.Sort.ahead]
  have hkeep : ∀ k, k < w.heap.size → (Go.Sort.grow (Go.Sort.putRow (Value.int .i64) (Go.Sort.ahead w n) r.row r.off (sortL xs).toArray) os).heap[k]? = (Go.Sort.putRow (Value.int .i64) (Go.Sort.ahead w n) r.row r.off (sortL xs).toArray).heap[k]? := by
    intro k hk
    simp only [Go.Sort.grow]
    rw [Array.getElem?_append_left (by rw [hsz]; exact hk)]
  refine ⟨.tuple [], .tuple #[], H.put id (some ⟨true, ints (sortL xs)⟩), ι, rfl, ⟨(), rfl, ?_, trivial⟩, by simp [VRel, VRelL], grownRel hrel (by rw [hsz]; exact hkeep), ?_⟩
  · refine hS'.mod rfl ?_ (Nat.le_refl _) hS.mh ?_ (.inl rfl)
    · intro id' _ hne
      rw [Heap.get_put, if_neg]
      intro e; subst e; exact hne rfl
    · exact ⟨hc1, by simp [ints, hsl], .inr ⟨id, rfl, hown, by simp [Heap.get_put]⟩⟩
  · have hx := HExt.rewrite (w' := Go.Sort.putRow (Value.int .i64) (Go.Sort.ahead w n) r.row r.off (sortL xs).toArray) (hh.id_lt hg) hg rfl hr (Nat.le_of_eq hsz.symm) rfl rfl rfl hsame (cs := ints (sortL xs))
    exact ⟨hx.le, hx.size, by simp only [Go.Sort.grow, Array.size_append]; rw [hsz]; omega, rfl, rfl, rfl, fun k hk g1 g2 => (hkeep k hk).trans (hx.rows k hk g1 g2), hx.news, hx.newo⟩

theorem sortedCopyB_ok {H : Heap} {a : AV} {xs : List Int} (ha : Ints H a xs) (hl : xs.length ≤ 1000000) :
    ACalls Try.prog fn_impl_sortedCopy [a] H fun r H' => OwnI H H' r (sortL xs) ∧ Le H H' := by
  refine code_impl_sortedCopy.go [.roI a xs.length xs] ⟨⟨rfl, ha⟩, trivial⟩ (by simp) ?_
  unfold mc_impl_sortedCopy
  (repeat (first | with_reducible (first | refine go_nil ?_ | refine gk_seq ?_ | refine gc_seq ?_ | refine gc_reg ?_ | refine gc_skip ?_ | refine gk_block ?_ | refine gc_block ?_ | refine gc_exit ?_ | refine gc_ret ?_ | refine gk_seqret ?_ | refine gk_seqexit ?_ | refine gk_blockret ?_ | refine gk_out ?_ | refine gk_loopret ?_ | refine gk_loopexit ?_) | (show GO _ _ _ _ _ (⟨some _, none, .call _ _⟩ :: _) _; first | (show GO _ _ _ _ _ (⟨some _, none, .call fn_slices_Clone_ints _⟩ :: _) _; refine go_calln rfl code_slices_Clone_ints.callable (fun H hH => clone_ok (hH.ints (by exact Has.auto)) (by omega)) ?_; intro u) | (show GO _ _ _ _ _ (⟨some _, none, .call fn_slices_Sort_ints _⟩ :: _) _; refine go_callg rfl code_slices_Sort_ints.callable (fun H hH => slicesSort_ok hH (by exact Sel.auto) (by omega)) ?_; intro g hg) | (show GO _ _ _ _ _ (⟨some _, none, .call fn_slices_Sort_ints _⟩ :: _) _; refine go_callg rfl code_slices_Sort_ints.callable (fun H hH => sortAny_ok hH (by exact Sel.auto) (by omega)) ?_; intro g hg)) | (show GO _ _ _ _ _ (⟨some _, none, _⟩ :: _) _; first | refine go_op (hk := ?_) | (refine go_nw (hk := ?_); intro u; try simp only [List.length_cons, List.length_nil, List.nil_append, Nat.zero_add]) | (refine go_np (hk := ?_); intro id)) | (show GO _ _ _ _ _ (⟨none, none, _⟩ :: _) _; refine go_st (hk := ?_)) | (show GO _ _ _ _ _ (⟨_, some _, _⟩ :: _) _; first | refine go_in (hk := ?_) | refine go_out (hk := ?_) | refine go_void (hk := ?_)) | (show GK _ _ _ _ (blockK _ _ _); refine gk_past rfl ?_) | (show GC _ _ _ _ _ (.cond _ _ _) _; first | refine gc_yes (h1 := ?_) | refine gc_no (h1 := ?_))))
  refine gk_ret rfl fun H' hH => ?_
  unfold OwnI
  rw [sortL_length]
  exact hH.give .head

theorem twiceMiddleB_ok {H : Heap} {a : AV} {xs : List Int} (ha : Ints H a xs) (hb0 : Bd 1000 xs) (hl : xs.length ≤ 1000) (h0 : 0 < xs.length) :
    ACalls Try.prog fn_impl_twiceMiddle [a] H fun r H' => r = .int .i64 (midL xs) ∧ H' = H := by
  refine ACalls.val ?_ rfl
  have hb : Bd 1000 (sortL xs) := sortTo_bd hb0 (by omega) _
  have hsl := sortL_length xs
  refine code_impl_twiceMiddle.go [.roI a xs.length xs] ⟨⟨rfl, ha⟩, trivial⟩ (by simp) ?_
  unfold mc_impl_twiceMiddle
  have e1 : ((((sortL xs).length : Int) - 1) / 2).toNat = (xs.length - 1) / 2 := by rw [hsl]; omega
  have e2 : (((sortL xs).length : Int) / 2).toNat = xs.length / 2 := by rw [hsl]; omega
  have k1 := hb.nth (by omega) ((((sortL xs).length : Int) - 1) / 2).toNat
  have k2 := hb.nth (by omega) (((sortL xs).length : Int) / 2).toNat
  (repeat (first | with_reducible (first | refine go_nil ?_ | refine gk_seq ?_ | refine gc_seq ?_ | refine gc_reg ?_ | refine gc_skip ?_ | refine gk_block ?_ | refine gc_block ?_ | refine gc_exit ?_ | refine gc_ret ?_ | refine gk_seqret ?_ | refine gk_seqexit ?_ | refine gk_blockret ?_ | refine gk_out ?_ | refine gk_loopret ?_ | refine gk_loopexit ?_ | refine gq_nil ?_) | (with_reducible refine gc_drq ?_; intro _) | (show GO _ _ _ _ _ (⟨some _, none, .call _ _⟩ :: _) _; first | (show GO _ _ _ _ _ (⟨some _, none, .call fn_impl_sortedCopy _⟩ :: _) _; refine go_calln rfl code_impl_sortedCopy.callable (fun H hH => sortedCopy_ok (hH.ints (by exact Has.auto)) (by omega)) ?_; intro u) | (show GO _ _ _ _ _ (⟨some _, none, .call fn_impl_sortedCopy _⟩ :: _) _; refine go_calln rfl code_impl_sortedCopy.callable (fun H hH => sortedCopyB_ok (hH.ints (by exact Has.auto)) (by omega)) ?_; intro u)) | (show GO _ _ _ _ _ (⟨some _, none, _⟩ :: _) _; first | refine go_op (hk := ?_) | (refine go_nw (hk := ?_); intro u; try simp only [List.length_cons, List.length_nil, List.nil_append, Nat.zero_add]) | (refine go_np (hk := ?_); intro id)) | (show GQ _ _ _ _ _ _ _ (⟨some _, none, _⟩ :: _) _; first | refine gq_op (hk := ?_) | (refine gq_nw (hk := ?_); intro u; try simp only [List.length_cons, List.length_nil, List.nil_append, Nat.zero_add])) | (show GO _ _ _ _ _ (⟨none, none, _⟩ :: _) _; refine go_st (hk := ?_)) | (show GO _ _ _ _ _ (⟨_, some _, _⟩ :: _) _; first | refine go_in (hk := ?_) | refine go_out (hk := ?_) | refine go_void (hk := ?_)) | (show GQ _ _ _ _ _ _ _ (⟨_, some _, _⟩ :: _) _; first | refine gq_in (hk := ?_) | refine gq_out (hk := ?_) | refine gq_void (hk := ?_)) | (show GK _ _ _ _ (blockK _ _ _); refine gk_past rfl ?_) | (show GC _ _ _ _ _ (.cond _ _ _) _; first | refine gc_yes (h1 := ?_) | refine gc_no (h1 := ?_))))
  refine gk_ret rfl fun H' hH => ⟨?_, hH.leE⟩
  simp only [tupleOf, midL, e1, e2]

def hsS (xs ys : List Int) : Nat → List Int
  | 0 => []
  | i + 1 => hsS xs ys i ++ tabZ xs.length fun k => nth ys i - nth xs k

theorem hsS_len (xs ys : List Int) : ∀ i, (hsS xs ys i).length = i * xs.length
  | 0 => by simp [hsS]
  | i + 1 => by rw [hsS, List.length_append, tabZ_len, hsS_len xs ys i, Nat.add_mul]; omega

theorem hsS_grd (xs ys : List Int) : ∀ n, hsS xs ys n = grd (fun i k => nth ys i - nth xs k) xs.length n
  | 0 => rfl
  | n + 1 => by rw [hsS, grd, hsS_grd xs ys n]

theorem hs_sh (xs ys : List Int) : (hsS xs ys ys.length).Perm (shS xs ys xs.length) := by
  rw [hsS_grd, shS_grd]
  exact grd_swap _ _ _

theorem implShiftMiddle_ok {H : Heap} {a b : AV} {xs ys : List Int} (ha : Ints H a xs) (hb : Ints H b ys) (hl : xs.length ≤ 1000000000) (hl' : ys.length ≤ 1000000000) :
    ACalls Try.prog fn_impl_ShiftMiddle [a, b] H fun r H' => r = .tuple [.int .i64 (smA xs ys), .bool (decide (Samples xs ys))] ∧ H' = H := by
  refine ACalls.val ?_ rfl
  refine code_impl_ShiftMiddle.go [.roI a xs.length xs, .roI b ys.length ys] ⟨⟨rfl, ha⟩, ⟨rfl, hb⟩, trivial⟩ (by simp) ?_
  unfold mc_impl_ShiftMiddle
  (repeat (first | with_reducible (first | refine go_nil ?_ | refine gk_seq ?_ | refine gc_seq ?_ | refine gc_reg ?_ | refine gc_skip ?_ | refine gk_block ?_ | refine gc_block ?_ | refine gc_exit ?_ | refine gc_ret ?_ | refine gk_seqret ?_ | refine gk_seqexit ?_ | refine gk_blockret ?_ | refine gk_out ?_ | refine gk_loopret ?_ | refine gk_loopexit ?_) | (show GO _ _ _ _ _ (⟨some _, none, .call _ _⟩ :: _) _; first | (show GO _ _ _ _ _ (⟨some _, none, .call fn_impl_validSamples _⟩ :: _) _; refine go_implSamples (hk := ?_); try intro u) | (show GO _ _ _ _ _ (⟨some _, none, .call fn_impl_twiceMiddle _⟩ :: _) _; refine go_callp rfl code_impl_twiceMiddle.callable (fun H hH => twiceMiddle_ok (hH.ints (by exact Has.auto)) (by assumption) (by omega)) ?_)) | (show GO _ _ _ _ _ (⟨some _, none, _⟩ :: _) _; first | refine go_op (hk := ?_) | (refine go_nw (hk := ?_); intro u; try simp only [List.length_cons, List.length_nil, List.nil_append, Nat.zero_add]) | (refine go_np (hk := ?_); intro id)) | (show GO _ _ _ _ _ (⟨none, none, _⟩ :: _) _; refine go_st (hk := ?_)) | (show GO _ _ _ _ _ (⟨_, some _, _⟩ :: _) _; first | refine go_in (hk := ?_) | refine go_out (hk := ?_) | refine go_void (hk := ?_)) | (show GK _ _ _ _ (blockK _ _ _); refine gk_past rfl ?_) | (show GC _ _ _ _ _ (.cond _ _ _) _; first | refine gc_yes (h1 := ?_) | refine gc_no (h1 := ?_))))
  refine gc_cond rfl (fun h => ?_) (fun h => ?_)
  · (repeat (first | with_reducible (first | refine go_nil ?_ | refine gk_seq ?_ | refine gc_seq ?_ | refine gc_reg ?_ | refine gc_skip ?_ | refine gk_block ?_ | refine gc_block ?_ | refine gc_exit ?_ | refine gc_ret ?_ | refine gk_seqret ?_ | refine gk_seqexit ?_ | refine gk_blockret ?_ | refine gk_out ?_ | refine gk_loopret ?_ | refine gk_loopexit ?_) | (show GO _ _ _ _ _ (⟨some _, none, .call _ _⟩ :: _) _; first | (show GO _ _ _ _ _ (⟨some _, none, .call fn_impl_validSamples _⟩ :: _) _; refine go_implSamples (hk := ?_); try intro u) | (show GO _ _ _ _ _ (⟨some _, none, .call fn_impl_twiceMiddle _⟩ :: _) _; refine go_callp rfl code_impl_twiceMiddle.callable (fun H hH => twiceMiddle_ok (hH.ints (by exact Has.auto)) (by assumption) (by omega)) ?_)) | (show GO _ _ _ _ _ (⟨some _, none, _⟩ :: _) _; first | refine go_op (hk := ?_) | (refine go_nw (hk := ?_); intro u; try simp only [List.length_cons, List.length_nil, List.nil_append, Nat.zero_add]) | (refine go_np (hk := ?_); intro id)) | (show GO _ _ _ _ _ (⟨none, none, _⟩ :: _) _; refine go_st (hk := ?_)) | (show GO _ _ _ _ _ (⟨_, some _, _⟩ :: _) _; first | refine go_in (hk := ?_) | refine go_out (hk := ?_) | refine go_void (hk := ?_)) | (show GK _ _ _ _ (blockK _ _ _); refine gk_past rfl ?_) | (show GC _ _ _ _ _ (.cond _ _ _) _; first | refine gc_yes (h1 := ?_) | refine gc_no (h1 := ?_))))
    exact gk_ret rfl fun H' hH => ⟨by simp [tupleOf, smA, h], hH.leE⟩
  have hs : Samples xs ys := Decidable.not_not.1 h
  have hs' := hs
  obtain ⟨⟨hd1, hd2⟩, h3, h4, h5⟩ := hs'
  have hlen := hsS_len xs ys
  have hmul : xs.length * ys.length ≤ 10 * 10 := Nat.mul_le_mul (by omega) (by omega)
  have hpos : 0 < ys.length * xs.length := Nat.mul_pos h5 h4
  have hperm := hs_sh xs ys
  have hbd : Bd 1000 (hsS xs ys ys.length) := fun x hx => by
    have := shS_bd hd1.bd hd2.bd xs.length x (hperm.mem_iff.1 hx)
    omega
  (repeat (first | with_reducible (first | refine go_nil ?_ | refine gk_seq ?_ | refine gc_seq ?_ | refine gc_reg ?_ | refine gc_skip ?_ | refine gk_block ?_ | refine gc_block ?_ | refine gc_exit ?_ | refine gc_ret ?_ | refine gk_seqret ?_ | refine gk_seqexit ?_ | refine gk_blockret ?_ | refine gk_out ?_ | refine gk_loopret ?_ | refine gk_loopexit ?_) | (show GO _ _ _ _ _ (⟨some _, none, .call _ _⟩ :: _) _; first | (show GO _ _ _ _ _ (⟨some _, none, .call fn_impl_validSamples _⟩ :: _) _; refine go_implSamples (hk := ?_); try intro u) | (show GO _ _ _ _ _ (⟨some _, none, .call fn_impl_twiceMiddle _⟩ :: _) _; refine go_callp rfl code_impl_twiceMiddle.callable (fun H hH => twiceMiddle_ok (hH.ints (by exact Has.auto)) (by assumption) (by omega)) ?_)) | (show GO _ _ _ _ _ (⟨some _, none, _⟩ :: _) _; first | refine go_op (hk := ?_) | (refine go_nw (hk := ?_); intro u; try simp only [List.length_cons, List.length_nil, List.nil_append, Nat.zero_add]) | (refine go_np (hk := ?_); intro id)) | (show GO _ _ _ _ _ (⟨none, none, _⟩ :: _) _; refine go_st (hk := ?_)) | (show GO _ _ _ _ _ (⟨_, some _, _⟩ :: _) _; first | refine go_in (hk := ?_) | refine go_out (hk := ?_) | refine go_void (hk := ?_)) | (show GK _ _ _ _ (blockK _ _ _); refine gk_past rfl ?_) | (show GC _ _ _ _ _ (.cond _ _ _) _; first | refine gc_yes (h1 := ?_) | refine gc_no (h1 := ?_))))
  refine gc_nil ?_
  refine gc_upv ys.length (fun i u => [(0, a), (6, u), (15, b), (16, .int .i64 (ys.length : Int)), (17, .int .i64 (i : Int))]) (fun i u => [.rwI u (hsS xs ys i).length (hsS xs ys i), .roI a xs.length xs, .roI b ys.length ys]) .nilSlice (hb := ?_)
  intro i u hi I ν m hk
  have hii : i * xs.length ≤ 10 * 10 := Nat.mul_le_mul (by omega) (by omega)
  have hli := hlen i
  (repeat (first | with_reducible (first | refine go_nil ?_ | refine gk_seq ?_ | refine gc_seq ?_ | refine gc_reg ?_ | refine gc_skip ?_ | refine gk_block ?_ | refine gc_block ?_ | refine gc_exit ?_ | refine gc_ret ?_ | refine gk_seqret ?_ | refine gk_seqexit ?_ | refine gk_blockret ?_ | refine gk_out ?_ | refine gk_loopret ?_ | refine gk_loopexit ?_) | (show GO _ _ _ _ _ (⟨some _, none, .call _ _⟩ :: _) _; first | (show GO _ _ _ _ _ (⟨some _, none, .call fn_impl_validSamples _⟩ :: _) _; refine go_implSamples (hk := ?_); try intro u) | (show GO _ _ _ _ _ (⟨some _, none, .call fn_impl_twiceMiddle _⟩ :: _) _; refine go_callp rfl code_impl_twiceMiddle.callable (fun H hH => twiceMiddle_ok (hH.ints (by exact Has.auto)) (by assumption) (by omega)) ?_)) | (show GO _ _ _ _ _ (⟨some _, none, _⟩ :: _) _; first | refine go_op (hk := ?_) | (refine go_nw (hk := ?_); intro u; try simp only [List.length_cons, List.length_nil, List.nil_append, Nat.zero_add]) | (refine go_np (hk := ?_); intro id)) | (show GO _ _ _ _ _ (⟨none, none, _⟩ :: _) _; refine go_st (hk := ?_)) | (show GO _ _ _ _ _ (⟨_, some _, _⟩ :: _) _; first | refine go_in (hk := ?_) | refine go_out (hk := ?_) | refine go_void (hk := ?_)) | (show GK _ _ _ _ (blockK _ _ _); refine gk_past rfl ?_) | (show GC _ _ _ _ _ (.cond _ _ _) _; first | refine gc_yes (h1 := ?_) | refine gc_no (h1 := ?_))))
  refine gc_cond rfl (fun h => ?_) (fun h => ?_)
  · have hk := hk (by omega)
    rw [hsS, List.length_append, tabZ_len] at hk
    (repeat (first | with_reducible (first | refine go_nil ?_ | refine gk_seq ?_ | refine gc_seq ?_ | refine gc_reg ?_ | refine gc_skip ?_ | refine gk_block ?_ | refine gc_block ?_ | refine gc_exit ?_ | refine gc_ret ?_ | refine gk_seqret ?_ | refine gk_seqexit ?_ | refine gk_blockret ?_ | refine gk_out ?_ | refine gk_loopret ?_ | refine gk_loopexit ?_) | (show GO _ _ _ _ _ (⟨some _, none, .call _ _⟩ :: _) _; first | (show GO _ _ _ _ _ (⟨some _, none, .call fn_impl_validSamples _⟩ :: _) _; refine go_implSamples (hk := ?_); try intro u) | (show GO _ _ _ _ _ (⟨some _, none, .call fn_impl_twiceMiddle _⟩ :: _) _; refine go_callp rfl code_impl_twiceMiddle.callable (fun H hH => twiceMiddle_ok (hH.ints (by exact Has.auto)) (by assumption) (by omega)) ?_)) | (show GO _ _ _ _ _ (⟨some _, none, _⟩ :: _) _; first | refine go_op (hk := ?_) | (refine go_nw (hk := ?_); intro u; try simp only [List.length_cons, List.length_nil, List.nil_append, Nat.zero_add]) | (refine go_np (hk := ?_); intro id)) | (show GO _ _ _ _ _ (⟨none, none, _⟩ :: _) _; refine go_st (hk := ?_)) | (show GO _ _ _ _ _ (⟨_, some _, _⟩ :: _) _; first | refine go_in (hk := ?_) | refine go_out (hk := ?_) | refine go_void (hk := ?_)) | (show GK _ _ _ _ (blockK _ _ _); refine gk_past rfl ?_) | (show GC _ _ _ _ _ (.cond _ _ _) _; first | refine gc_yes (h1 := ?_) | refine gc_no (h1 := ?_))))
    refine gc_upv xs.length (fun k w => [(0, a), (6, w), (8, .int .i64 (nth ys i)), (15, b), (16, .int .i64 (ys.length : Int)), (17, .int .i64 (i : Int)), (21, a), (22, .int .i64 (xs.length : Int)), (23, .int .i64 (k : Int))]) (fun k w => [.rwI w ((hsS xs ys i).length + k) (hsS xs ys i ++ tabZ k fun k => nth ys i - nth xs k), .roI a xs.length xs, .roI b ys.length ys]) u (hS := by simp only [tabZ, List.range_zero, List.map_nil, List.append_nil, Nat.add_zero]; exact Sub.auto) (hb := ?_)
    intro k w hk1 I2 ν2 m2 hk2
    (repeat (first | with_reducible (first | refine go_nil ?_ | refine gk_seq ?_ | refine gc_seq ?_ | refine gc_reg ?_ | refine gc_skip ?_ | refine gk_block ?_ | refine gc_block ?_ | refine gc_exit ?_ | refine gc_ret ?_ | refine gk_seqret ?_ | refine gk_seqexit ?_ | refine gk_blockret ?_ | refine gk_out ?_ | refine gk_loopret ?_ | refine gk_loopexit ?_) | (show GO _ _ _ _ _ (⟨some _, none, .call _ _⟩ :: _) _; first | (show GO _ _ _ _ _ (⟨some _, none, .call fn_impl_validSamples _⟩ :: _) _; refine go_implSamples (hk := ?_); try intro u) | (show GO _ _ _ _ _ (⟨some _, none, .call fn_impl_twiceMiddle _⟩ :: _) _; refine go_callp rfl code_impl_twiceMiddle.callable (fun H hH => twiceMiddle_ok (hH.ints (by exact Has.auto)) (by assumption) (by omega)) ?_)) | (show GO _ _ _ _ _ (⟨some _, none, _⟩ :: _) _; first | refine go_op (hk := ?_) | (refine go_nw (hk := ?_); intro u; try simp only [List.length_cons, List.length_nil, List.nil_append, Nat.zero_add]) | (refine go_np (hk := ?_); intro id)) | (show GO _ _ _ _ _ (⟨none, none, _⟩ :: _) _; refine go_st (hk := ?_)) | (show GO _ _ _ _ _ (⟨_, some _, _⟩ :: _) _; first | refine go_in (hk := ?_) | refine go_out (hk := ?_) | refine go_void (hk := ?_)) | (show GK _ _ _ _ (blockK _ _ _); refine gk_past rfl ?_) | (show GC _ _ _ _ _ (.cond _ _ _) _; first | refine gc_yes (h1 := ?_) | refine gc_no (h1 := ?_))))
    refine gc_cond rfl (fun h2 => ?_) (fun h2 => ?_)
    · have hk2 := hk2 (by omega)
      rw [tabZ_succ, ← List.append_assoc] at hk2
      have b1 := hd2.bd.nth (by omega) i
      have b2 := hd1.bd.nth (by omega) k
      (repeat (first | with_reducible (first | refine go_nil ?_ | refine gk_seq ?_ | refine gc_seq ?_ | refine gc_reg ?_ | refine gc_skip ?_ | refine gk_block ?_ | refine gc_block ?_ | refine gc_exit ?_ | refine gc_ret ?_ | refine gk_seqret ?_ | refine gk_seqexit ?_ | refine gk_blockret ?_ | refine gk_out ?_ | refine gk_loopret ?_ | refine gk_loopexit ?_) | (show GO _ _ _ _ _ (⟨some _, none, .call _ _⟩ :: _) _; first | (show GO _ _ _ _ _ (⟨some _, none, .call fn_impl_validSamples _⟩ :: _) _; refine go_implSamples (hk := ?_); try intro u) | (show GO _ _ _ _ _ (⟨some _, none, .call fn_impl_twiceMiddle _⟩ :: _) _; refine go_callp rfl code_impl_twiceMiddle.callable (fun H hH => twiceMiddle_ok (hH.ints (by exact Has.auto)) (by assumption) (by omega)) ?_)) | (show GO _ _ _ _ _ (⟨some _, none, _⟩ :: _) _; first | refine go_op (hk := ?_) | (refine go_nw (hk := ?_); intro u; try simp only [List.length_cons, List.length_nil, List.nil_append, Nat.zero_add]) | (refine go_np (hk := ?_); intro id)) | (show GO _ _ _ _ _ (⟨none, none, _⟩ :: _) _; refine go_st (hk := ?_)) | (show GO _ _ _ _ _ (⟨_, some _, _⟩ :: _) _; first | refine go_in (hk := ?_) | refine go_out (hk := ?_) | refine go_void (hk := ?_)) | (show GK _ _ _ _ (blockK _ _ _); refine gk_past rfl ?_) | (show GC _ _ _ _ _ (.cond _ _ _) _; first | refine gc_yes (h1 := ?_) | refine gc_no (h1 := ?_))))
      exact gk_next (hk2 _)
    · have : k = xs.length := by omega
      subst this
      (repeat (first | with_reducible (first | refine go_nil ?_ | refine gk_seq ?_ | refine gc_seq ?_ | refine gc_reg ?_ | refine gc_skip ?_ | refine gk_block ?_ | refine gc_block ?_ | refine gc_exit ?_ | refine gc_ret ?_ | refine gk_seqret ?_ | refine gk_seqexit ?_ | refine gk_blockret ?_ | refine gk_out ?_ | refine gk_loopret ?_ | refine gk_loopexit ?_) | (show GO _ _ _ _ _ (⟨some _, none, .call _ _⟩ :: _) _; first | (show GO _ _ _ _ _ (⟨some _, none, .call fn_impl_validSamples _⟩ :: _) _; refine go_implSamples (hk := ?_); try intro u) | (show GO _ _ _ _ _ (⟨some _, none, .call fn_impl_twiceMiddle _⟩ :: _) _; refine go_callp rfl code_impl_twiceMiddle.callable (fun H hH => twiceMiddle_ok (hH.ints (by exact Has.auto)) (by assumption) (by omega)) ?_)) | (show GO _ _ _ _ _ (⟨some _, none, _⟩ :: _) _; first | refine go_op (hk := ?_) | (refine go_nw (hk := ?_); intro u; try simp only [List.length_cons, List.length_nil, List.nil_append, Nat.zero_add]) | (refine go_np (hk := ?_); intro id)) | (show GO _ _ _ _ _ (⟨none, none, _⟩ :: _) _; refine go_st (hk := ?_)) | (show GO _ _ _ _ _ (⟨_, some _, _⟩ :: _) _; first | refine go_in (hk := ?_) | refine go_out (hk := ?_) | refine go_void (hk := ?_)) | (show GK _ _ _ _ (blockK _ _ _); refine gk_past rfl ?_) | (show GC _ _ _ _ _ (.cond _ _ _) _; first | refine gc_yes (h1 := ?_) | refine gc_no (h1 := ?_))))
      exact gk_next (hk _)
  · have : i = ys.length := by omega
    subst this
    have hli := hlen ys.length
    (repeat (first | with_reducible (first | refine go_nil ?_ | refine gk_seq ?_ | refine gc_seq ?_ | refine gc_reg ?_ | refine gc_skip ?_ | refine gk_block ?_ | refine gc_block ?_ | refine gc_exit ?_ | refine gc_ret ?_ | refine gk_seqret ?_ | refine gk_seqexit ?_ | refine gk_blockret ?_ | refine gk_out ?_ | refine gk_loopret ?_ | refine gk_loopexit ?_) | (show GO _ _ _ _ _ (⟨some _, none, .call _ _⟩ :: _) _; first | (show GO _ _ _ _ _ (⟨some _, none, .call fn_impl_validSamples _⟩ :: _) _; refine go_implSamples (hk := ?_); try intro u) | (show GO _ _ _ _ _ (⟨some _, none, .call fn_impl_twiceMiddle _⟩ :: _) _; refine go_callp rfl code_impl_twiceMiddle.callable (fun H hH => twiceMiddle_ok (hH.ints (by exact Has.auto)) (by assumption) (by omega)) ?_)) | (show GO _ _ _ _ _ (⟨some _, none, _⟩ :: _) _; first | refine go_op (hk := ?_) | (refine go_nw (hk := ?_); intro u; try simp only [List.length_cons, List.length_nil, List.nil_append, Nat.zero_add]) | (refine go_np (hk := ?_); intro id)) | (show GO _ _ _ _ _ (⟨none, none, _⟩ :: _) _; refine go_st (hk := ?_)) | (show GO _ _ _ _ _ (⟨_, some _, _⟩ :: _) _; first | refine go_in (hk := ?_) | refine go_out (hk := ?_) | refine go_void (hk := ?_)) | (show GK _ _ _ _ (blockK _ _ _); refine gk_past rfl ?_) | (show GC _ _ _ _ _ (.cond _ _ _) _; first | refine gc_yes (h1 := ?_) | refine gc_no (h1 := ?_))))
    refine go_callp rfl code_impl_twiceMiddle.callable (fun H hH => twiceMiddleB_ok (hH.ints (by exact Has.auto)) hbd (by omega) (by omega)) ?_
    rw [mid_perm hperm]
    (repeat (first | with_reducible (first | refine go_nil ?_ | refine gk_seq ?_ | refine gc_seq ?_ | refine gc_reg ?_ | refine gc_skip ?_ | refine gk_block ?_ | refine gc_block ?_ | refine gc_exit ?_ | refine gc_ret ?_ | refine gk_seqret ?_ | refine gk_seqexit ?_ | refine gk_blockret ?_ | refine gk_out ?_ | refine gk_loopret ?_ | refine gk_loopexit ?_) | (show GO _ _ _ _ _ (⟨some _, none, .call _ _⟩ :: _) _; first | (show GO _ _ _ _ _ (⟨some _, none, .call fn_impl_validSamples _⟩ :: _) _; refine go_implSamples (hk := ?_); try intro u) | (show GO _ _ _ _ _ (⟨some _, none, .call fn_impl_twiceMiddle _⟩ :: _) _; refine go_callp rfl code_impl_twiceMiddle.callable (fun H hH => twiceMiddle_ok (hH.ints (by exact Has.auto)) (by assumption) (by omega)) ?_)) | (show GO _ _ _ _ _ (⟨some _, none, _⟩ :: _) _; first | refine go_op (hk := ?_) | (refine go_nw (hk := ?_); intro u; try simp only [List.length_cons, List.length_nil, List.nil_append, Nat.zero_add]) | (refine go_np (hk := ?_); intro id)) | (show GO _ _ _ _ _ (⟨none, none, _⟩ :: _) _; refine go_st (hk := ?_)) | (show GO _ _ _ _ _ (⟨_, some _, _⟩ :: _) _; first | refine go_in (hk := ?_) | refine go_out (hk := ?_) | refine go_void (hk := ?_)) | (show GK _ _ _ _ (blockK _ _ _); refine gk_past rfl ?_) | (show GC _ _ _ _ _ (.cond _ _ _) _; first | refine gc_yes (h1 := ?_) | refine gc_no (h1 := ?_))))
    exact gk_ret rfl fun H' hH => ⟨by simp [tupleOf, smA, hs], hH.leE⟩

theorem lawFnExactShiftMiddle_ok {H : Heap} {a b : AV} {xs ys : List Int} (ha : Ints H a xs) (hb : Ints H b ys) : ACalls Try.prog fn_laws_FnExactShiftMiddle [a, b] H fun r _ => r = .bool true := by
  refine code_laws_FnExactShiftMiddle.go [.roI a xs.length xs, .roI b ys.length ys] ⟨⟨rfl, ha⟩, ⟨rfl, hb⟩, trivial⟩ (by simp) ?_
  unfold mc_laws_FnExactShiftMiddle
  (repeat (first | with_reducible (first | refine go_nil ?_ | refine gk_seq ?_ | refine gc_seq ?_ | refine gc_reg ?_ | refine gc_skip ?_ | refine gk_block ?_ | refine gc_block ?_ | refine gc_exit ?_ | refine gc_ret ?_ | refine gk_seqret ?_ | refine gk_seqexit ?_ | refine gk_blockret ?_ | refine gk_out ?_ | refine gk_loopret ?_ | refine gk_loopexit ?_) | (show GO _ _ _ _ _ (⟨some _, none, .call _ _⟩ :: _) _; first | (show GO _ _ _ _ _ (⟨some _, none, .call fn_laws_toIntS _⟩ :: _) _; refine go_toIntS (hk := ?_); try intro u) | (show GO _ _ _ _ _ (⟨some _, none, .call fn_laws_eqIntS _⟩ :: _) _; refine go_eqIntS (hk := ?_); try intro u) | (show GO _ _ _ _ _ (⟨some _, none, .call fn_spec_ShiftMiddle _⟩ :: _) _; refine go_callp rfl code_spec_ShiftMiddle.callable (fun H hH => specShiftMiddle_ok (hH.ints (by exact Has.auto)) (hH.ints (by exact Has.auto)) (by omega) (by omega)) ?_) | (show GO _ _ _ _ _ (⟨some _, none, .call fn_impl_ShiftMiddle _⟩ :: _) _; refine go_callp rfl code_impl_ShiftMiddle.callable (fun H hH => implShiftMiddle_ok (hH.ints (by exact Has.auto)) (hH.ints (by exact Has.auto)) (by omega) (by omega)) ?_)) | (show GO _ _ _ _ _ (⟨some _, none, _⟩ :: _) _; first | refine go_op (hk := ?_) | (refine go_nw (hk := ?_); intro u; try simp only [List.length_cons, List.length_nil, List.nil_append, Nat.zero_add]) | (refine go_np (hk := ?_); intro id)) | (show GO _ _ _ _ _ (⟨none, none, _⟩ :: _) _; refine go_st (hk := ?_)) | (show GO _ _ _ _ _ (⟨_, some _, _⟩ :: _) _; first | refine go_in (hk := ?_) | refine go_out (hk := ?_) | refine go_void (hk := ?_)) | (show GK _ _ _ _ (blockK _ _ _); refine gk_past rfl ?_) | (show GC _ _ _ _ _ (.cond _ _ _) _; first | refine gc_yes (h1 := ?_) | refine gc_no (h1 := ?_))))
  refine gc_cond rfl (fun h => ?_) (fun h => ?_)
  · (repeat (first | with_reducible (first | refine go_nil ?_ | refine gk_seq ?_ | refine gc_seq ?_ | refine gc_reg ?_ | refine gc_skip ?_ | refine gk_block ?_ | refine gc_block ?_ | refine gc_exit ?_ | refine gc_ret ?_ | refine gk_seqret ?_ | refine gk_seqexit ?_ | refine gk_blockret ?_ | refine gk_out ?_ | refine gk_loopret ?_ | refine gk_loopexit ?_) | (show GO _ _ _ _ _ (⟨some _, none, .call _ _⟩ :: _) _; first | (show GO _ _ _ _ _ (⟨some _, none, .call fn_laws_toIntS _⟩ :: _) _; refine go_toIntS (hk := ?_); try intro u) | (show GO _ _ _ _ _ (⟨some _, none, .call fn_laws_eqIntS _⟩ :: _) _; refine go_eqIntS (hk := ?_); try intro u) | (show GO _ _ _ _ _ (⟨some _, none, .call fn_spec_ShiftMiddle _⟩ :: _) _; refine go_callp rfl code_spec_ShiftMiddle.callable (fun H hH => specShiftMiddle_ok (hH.ints (by exact Has.auto)) (hH.ints (by exact Has.auto)) (by omega) (by omega)) ?_) | (show GO _ _ _ _ _ (⟨some _, none, .call fn_impl_ShiftMiddle _⟩ :: _) _; refine go_callp rfl code_impl_ShiftMiddle.callable (fun H hH => implShiftMiddle_ok (hH.ints (by exact Has.auto)) (hH.ints (by exact Has.auto)) (by omega) (by omega)) ?_)) | (show GO _ _ _ _ _ (⟨some _, none, _⟩ :: _) _; first | refine go_op (hk := ?_) | (refine go_nw (hk := ?_); intro u; try simp only [List.length_cons, List.length_nil, List.nil_append, Nat.zero_add]) | (refine go_np (hk := ?_); intro id)) | (show GO _ _ _ _ _ (⟨none, none, _⟩ :: _) _; refine go_st (hk := ?_)) | (show GO _ _ _ _ _ (⟨_, some _, _⟩ :: _) _; first | refine go_in (hk := ?_) | refine go_out (hk := ?_) | refine go_void (hk := ?_)) | (show GK _ _ _ _ (blockK _ _ _); refine gk_past rfl ?_) | (show GC _ _ _ _ _ (.cond _ _ _) _; first | refine gc_yes (h1 := ?_) | refine gc_no (h1 := ?_))))
    exact gk_ret rfl fun H' hH => rfl
  (repeat (first | with_reducible (first | refine go_nil ?_ | refine gk_seq ?_ | refine gc_seq ?_ | refine gc_reg ?_ | refine gc_skip ?_ | refine gk_block ?_ | refine gc_block ?_ | refine gc_exit ?_ | refine gc_ret ?_ | refine gk_seqret ?_ | refine gk_seqexit ?_ | refine gk_blockret ?_ | refine gk_out ?_ | refine gk_loopret ?_ | refine gk_loopexit ?_) | (show GO _ _ _ _ _ (⟨some _, none, .call _ _⟩ :: _) _; first | (show GO _ _ _ _ _ (⟨some _, none, .call fn_laws_toIntS _⟩ :: _) _; refine go_toIntS (hk := ?_); try intro u) | (show GO _ _ _ _ _ (⟨some _, none, .call fn_laws_eqIntS _⟩ :: _) _; refine go_eqIntS (hk := ?_); try intro u) | (show GO _ _ _ _ _ (⟨some _, none, .call fn_spec_ShiftMiddle _⟩ :: _) _; refine go_callp rfl code_spec_ShiftMiddle.callable (fun H hH => specShiftMiddle_ok (hH.ints (by exact Has.auto)) (hH.ints (by exact Has.auto)) (by omega) (by omega)) ?_) | (show GO _ _ _ _ _ (⟨some _, none, .call fn_impl_ShiftMiddle _⟩ :: _) _; refine go_callp rfl code_impl_ShiftMiddle.callable (fun H hH => implShiftMiddle_ok (hH.ints (by exact Has.auto)) (hH.ints (by exact Has.auto)) (by omega) (by omega)) ?_)) | (show GO _ _ _ _ _ (⟨some _, none, _⟩ :: _) _; first | refine go_op (hk := ?_) | (refine go_nw (hk := ?_); intro u; try simp only [List.length_cons, List.length_nil, List.nil_append, Nat.zero_add]) | (refine go_np (hk := ?_); intro id)) | (show GO _ _ _ _ _ (⟨none, none, _⟩ :: _) _; refine go_st (hk := ?_)) | (show GO _ _ _ _ _ (⟨_, some _, _⟩ :: _) _; first | refine go_in (hk := ?_) | refine go_out (hk := ?_) | refine go_void (hk := ?_)) | (show GK _ _ _ _ (blockK _ _ _); refine gk_past rfl ?_) | (show GC _ _ _ _ _ (.cond _ _ _) _; first | refine gc_yes (h1 := ?_) | refine gc_no (h1 := ?_))))
  refine gc_cond rfl (fun h => ?_) (fun h => ?_)
  · (repeat (first | with_reducible (first | refine go_nil ?_ | refine gk_seq ?_ | refine gc_seq ?_ | refine gc_reg ?_ | refine gc_skip ?_ | refine gk_block ?_ | refine gc_block ?_ | refine gc_exit ?_ | refine gc_ret ?_ | refine gk_seqret ?_ | refine gk_seqexit ?_ | refine gk_blockret ?_ | refine gk_out ?_ | refine gk_loopret ?_ | refine gk_loopexit ?_) | (show GO _ _ _ _ _ (⟨some _, none, .call _ _⟩ :: _) _; first | (show GO _ _ _ _ _ (⟨some _, none, .call fn_laws_toIntS _⟩ :: _) _; refine go_toIntS (hk := ?_); try intro u) | (show GO _ _ _ _ _ (⟨some _, none, .call fn_laws_eqIntS _⟩ :: _) _; refine go_eqIntS (hk := ?_); try intro u) | (show GO _ _ _ _ _ (⟨some _, none, .call fn_spec_ShiftMiddle _⟩ :: _) _; refine go_callp rfl code_spec_ShiftMiddle.callable (fun H hH => specShiftMiddle_ok (hH.ints (by exact Has.auto)) (hH.ints (by exact Has.auto)) (by omega) (by omega)) ?_) | (show GO _ _ _ _ _ (⟨some _, none, .call fn_impl_ShiftMiddle _⟩ :: _) _; refine go_callp rfl code_impl_ShiftMiddle.callable (fun H hH => implShiftMiddle_ok (hH.ints (by exact Has.auto)) (hH.ints (by exact Has.auto)) (by omega) (by omega)) ?_)) | (show GO _ _ _ _ _ (⟨some _, none, _⟩ :: _) _; first | refine go_op (hk := ?_) | (refine go_nw (hk := ?_); intro u; try simp only [List.length_cons, List.length_nil, List.nil_append, Nat.zero_add]) | (refine go_np (hk := ?_); intro id)) | (show GO _ _ _ _ _ (⟨none, none, _⟩ :: _) _; refine go_st (hk := ?_)) | (show GO _ _ _ _ _ (⟨_, some _, _⟩ :: _) _; first | refine go_in (hk := ?_) | refine go_out (hk := ?_) | refine go_void (hk := ?_)) | (show GK _ _ _ _ (blockK _ _ _); refine gk_past rfl ?_) | (show GC _ _ _ _ _ (.cond _ _ _) _; first | refine gc_yes (h1 := ?_) | refine gc_no (h1 := ?_))))
    exact gk_ret rfl fun H' hH => rfl
  (repeat (first | with_reducible (first | refine go_nil ?_ | refine gk_seq ?_ | refine gc_seq ?_ | refine gc_reg ?_ | refine gc_skip ?_ | refine gk_block ?_ | refine gc_block ?_ | refine gc_exit ?_ | refine gc_ret ?_ | refine gk_seqret ?_ | refine gk_seqexit ?_ | refine gk_blockret ?_ | refine gk_out ?_ | refine gk_loopret ?_ | refine gk_loopexit ?_) | (show GO _ _ _ _ _ (⟨some _, none, .call _ _⟩ :: _) _; first | (show GO _ _ _ _ _ (⟨some _, none, .call fn_laws_toIntS _⟩ :: _) _; refine go_toIntS (hk := ?_); try intro u) | (show GO _ _ _ _ _ (⟨some _, none, .call fn_laws_eqIntS _⟩ :: _) _; refine go_eqIntS (hk := ?_); try intro u) | (show GO _ _ _ _ _ (⟨some _, none, .call fn_spec_ShiftMiddle _⟩ :: _) _; refine go_callp rfl code_spec_ShiftMiddle.callable (fun H hH => specShiftMiddle_ok (hH.ints (by exact Has.auto)) (hH.ints (by exact Has.auto)) (by omega) (by omega)) ?_) | (show GO _ _ _ _ _ (⟨some _, none, .call fn_impl_ShiftMiddle _⟩ :: _) _; refine go_callp rfl code_impl_ShiftMiddle.callable (fun H hH => implShiftMiddle_ok (hH.ints (by exact Has.auto)) (hH.ints (by exact Has.auto)) (by omega) (by omega)) ?_)) | (show GO _ _ _ _ _ (⟨some _, none, _⟩ :: _) _; first | refine go_op (hk := ?_) | (refine go_nw (hk := ?_); intro u; try simp only [List.length_cons, List.length_nil, List.nil_append, Nat.zero_add]) | (refine go_np (hk := ?_); intro id)) | (show GO _ _ _ _ _ (⟨none, none, _⟩ :: _) _; refine go_st (hk := ?_)) | (show GO _ _ _ _ _ (⟨_, some _, _⟩ :: _) _; first | refine go_in (hk := ?_) | refine go_out (hk := ?_) | refine go_void (hk := ?_)) | (show GK _ _ _ _ (blockK _ _ _); refine gk_past rfl ?_) | (show GC _ _ _ _ _ (.cond _ _ _) _; first | refine gc_yes (h1 := ?_) | refine gc_no (h1 := ?_))))
  refine go_split 38 rfl (fun hc => absurd rfl hc) (fun _ => ?_)
  (repeat (first | with_reducible (first | refine go_nil ?_ | refine gk_seq ?_ | refine gc_seq ?_ | refine gc_reg ?_ | refine gc_skip ?_ | refine gk_block ?_ | refine gc_block ?_ | refine gc_exit ?_ | refine gc_ret ?_ | refine gk_seqret ?_ | refine gk_seqexit ?_ | refine gk_blockret ?_ | refine gk_out ?_ | refine gk_loopret ?_ | refine gk_loopexit ?_) | (show GO _ _ _ _ _ (⟨some _, none, .call _ _⟩ :: _) _; first | (show GO _ _ _ _ _ (⟨some _, none, .call fn_laws_toIntS _⟩ :: _) _; refine go_toIntS (hk := ?_); try intro u) | (show GO _ _ _ _ _ (⟨some _, none, .call fn_laws_eqIntS _⟩ :: _) _; refine go_eqIntS (hk := ?_); try intro u) | (show GO _ _ _ _ _ (⟨some _, none, .call fn_spec_ShiftMiddle _⟩ :: _) _; refine go_callp rfl code_spec_ShiftMiddle.callable (fun H hH => specShiftMiddle_ok (hH.ints (by exact Has.auto)) (hH.ints (by exact Has.auto)) (by omega) (by omega)) ?_) | (show GO _ _ _ _ _ (⟨some _, none, .call fn_impl_ShiftMiddle _⟩ :: _) _; refine go_callp rfl code_impl_ShiftMiddle.callable (fun H hH => implShiftMiddle_ok (hH.ints (by exact Has.auto)) (hH.ints (by exact Has.auto)) (by omega) (by omega)) ?_)) | (show GO _ _ _ _ _ (⟨some _, none, _⟩ :: _) _; first | refine go_op (hk := ?_) | (refine go_nw (hk := ?_); intro u; try simp only [List.length_cons, List.length_nil, List.nil_append, Nat.zero_add]) | (refine go_np (hk := ?_); intro id)) | (show GO _ _ _ _ _ (⟨none, none, _⟩ :: _) _; refine go_st (hk := ?_)) | (show GO _ _ _ _ _ (⟨_, some _, _⟩ :: _) _; first | refine go_in (hk := ?_) | refine go_out (hk := ?_) | refine go_void (hk := ?_)) | (show GK _ _ _ _ (blockK _ _ _); refine gk_past rfl ?_) | (show GC _ _ _ _ _ (.cond _ _ _) _; first | refine gc_yes (h1 := ?_) | refine gc_no (h1 := ?_))))
  refine gc_cond rfl (fun hc => absurd Iff.rfl hc) (fun _ => ?_)
  (repeat (first | with_reducible (first | refine go_nil ?_ | refine gk_seq ?_ | refine gc_seq ?_ | refine gc_reg ?_ | refine gc_skip ?_ | refine gk_block ?_ | refine gc_block ?_ | refine gc_exit ?_ | refine gc_ret ?_ | refine gk_seqret ?_ | refine gk_seqexit ?_ | refine gk_blockret ?_ | refine gk_out ?_ | refine gk_loopret ?_ | refine gk_loopexit ?_) | (show GO _ _ _ _ _ (⟨some _, none, .call _ _⟩ :: _) _; first | (show GO _ _ _ _ _ (⟨some _, none, .call fn_laws_toIntS _⟩ :: _) _; refine go_toIntS (hk := ?_); try intro u) | (show GO _ _ _ _ _ (⟨some _, none, .call fn_laws_eqIntS _⟩ :: _) _; refine go_eqIntS (hk := ?_); try intro u) | (show GO _ _ _ _ _ (⟨some _, none, .call fn_spec_ShiftMiddle _⟩ :: _) _; refine go_callp rfl code_spec_ShiftMiddle.callable (fun H hH => specShiftMiddle_ok (hH.ints (by exact Has.auto)) (hH.ints (by exact Has.auto)) (by omega) (by omega)) ?_) | (show GO _ _ _ _ _ (⟨some _, none, .call fn_impl_ShiftMiddle _⟩ :: _) _; refine go_callp rfl code_impl_ShiftMiddle.callable (fun H hH => implShiftMiddle_ok (hH.ints (by exact Has.auto)) (hH.ints (by exact Has.auto)) (by omega) (by omega)) ?_)) | (show GO _ _ _ _ _ (⟨some _, none, _⟩ :: _) _; first | refine go_op (hk := ?_) | (refine go_nw (hk := ?_); intro u; try simp only [List.length_cons, List.length_nil, List.nil_append, Nat.zero_add]) | (refine go_np (hk := ?_); intro id)) | (show GO _ _ _ _ _ (⟨none, none, _⟩ :: _) _; refine go_st (hk := ?_)) | (show GO _ _ _ _ _ (⟨_, some _, _⟩ :: _) _; first | refine go_in (hk := ?_) | refine go_out (hk := ?_) | refine go_void (hk := ?_)) | (show GK _ _ _ _ (blockK _ _ _); refine gk_past rfl ?_) | (show GC _ _ _ _ _ (.cond _ _ _) _; first | refine gc_yes (h1 := ?_) | refine gc_no (h1 := ?_))))
  refine gc_cond rfl (fun hc => absurd rfl hc) (fun _ => ?_)
  (repeat (first | with_reducible (first | refine go_nil ?_ | refine gk_seq ?_ | refine gc_seq ?_ | refine gc_reg ?_ | refine gc_skip ?_ | refine gk_block ?_ | refine gc_block ?_ | refine gc_exit ?_ | refine gc_ret ?_ | refine gk_seqret ?_ | refine gk_seqexit ?_ | refine gk_blockret ?_ | refine gk_out ?_ | refine gk_loopret ?_ | refine gk_loopexit ?_) | (show GO _ _ _ _ _ (⟨some _, none, .call _ _⟩ :: _) _; first | (show GO _ _ _ _ _ (⟨some _, none, .call fn_laws_toIntS _⟩ :: _) _; refine go_toIntS (hk := ?_); try intro u) | (show GO _ _ _ _ _ (⟨some _, none, .call fn_laws_eqIntS _⟩ :: _) _; refine go_eqIntS (hk := ?_); try intro u) | (show GO _ _ _ _ _ (⟨some _, none, .call fn_spec_ShiftMiddle _⟩ :: _) _; refine go_callp rfl code_spec_ShiftMiddle.callable (fun H hH => specShiftMiddle_ok (hH.ints (by exact Has.auto)) (hH.ints (by exact Has.auto)) (by omega) (by omega)) ?_) | (show GO _ _ _ _ _ (⟨some _, none, .call fn_impl_ShiftMiddle _⟩ :: _) _; refine go_callp rfl code_impl_ShiftMiddle.callable (fun H hH => implShiftMiddle_ok (hH.ints (by exact Has.auto)) (hH.ints (by exact Has.auto)) (by omega) (by omega)) ?_)) | (show GO _ _ _ _ _ (⟨some _, none, _⟩ :: _) _; first | refine go_op (hk := ?_) | (refine go_nw (hk := ?_); intro u; try simp only [List.length_cons, List.length_nil, List.nil_append, Nat.zero_add]) | (refine go_np (hk := ?_); intro id)) | (show GO _ _ _ _ _ (⟨none, none, _⟩ :: _) _; refine go_st (hk := ?_)) | (show GO _ _ _ _ _ (⟨_, some _, _⟩ :: _) _; first | refine go_in (hk := ?_) | refine go_out (hk := ?_) | refine go_void (hk := ?_)) | (show GK _ _ _ _ (blockK _ _ _); refine gk_past rfl ?_) | (show GC _ _ _ _ _ (.cond _ _ _) _; first | refine gc_yes (h1 := ?_) | refine gc_no (h1 := ?_))))
  refine gc_cond rfl (fun hc => absurd rfl hc) (fun _ => ?_)
  (repeat (first | with_reducible (first | refine go_nil ?_ | refine gk_seq ?_ | refine gc_seq ?_ | refine gc_reg ?_ | refine gc_skip ?_ | refine gk_block ?_ | refine gc_block ?_ | refine gc_exit ?_ | refine gc_ret ?_ | refine gk_seqret ?_ | refine gk_seqexit ?_ | refine gk_blockret ?_ | refine gk_out ?_ | refine gk_loopret ?_ | refine gk_loopexit ?_) | (show GO _ _ _ _ _ (⟨some _, none, .call _ _⟩ :: _) _; first | (show GO _ _ _ _ _ (⟨some _, none, .call fn_laws_toIntS _⟩ :: _) _; refine go_toIntS (hk := ?_); try intro u) | (show GO _ _ _ _ _ (⟨some _, none, .call fn_laws_eqIntS _⟩ :: _) _; refine go_eqIntS (hk := ?_); try intro u) | (show GO _ _ _ _ _ (⟨some _, none, .call fn_spec_ShiftMiddle _⟩ :: _) _; refine go_callp rfl code_spec_ShiftMiddle.callable (fun H hH => specShiftMiddle_ok (hH.ints (by exact Has.auto)) (hH.ints (by exact Has.auto)) (by omega) (by omega)) ?_) | (show GO _ _ _ _ _ (⟨some _, none, .call fn_impl_ShiftMiddle _⟩ :: _) _; refine go_callp rfl code_impl_ShiftMiddle.callable (fun H hH => implShiftMiddle_ok (hH.ints (by exact Has.auto)) (hH.ints (by exact Has.auto)) (by omega) (by omega)) ?_)) | (show GO _ _ _ _ _ (⟨some _, none, _⟩ :: _) _; first | refine go_op (hk := ?_) | (refine go_nw (hk := ?_); intro u; try simp only [List.length_cons, List.length_nil, List.nil_append, Nat.zero_add]) | (refine go_np (hk := ?_); intro id)) | (show GO _ _ _ _ _ (⟨none, none, _⟩ :: _) _; refine go_st (hk := ?_)) | (show GO _ _ _ _ _ (⟨_, some _, _⟩ :: _) _; first | refine go_in (hk := ?_) | refine go_out (hk := ?_) | refine go_void (hk := ?_)) | (show GK _ _ _ _ (blockK _ _ _); refine gk_past rfl ?_) | (show GC _ _ _ _ _ (.cond _ _ _) _; first | refine gc_yes (h1 := ?_) | refine gc_no (h1 := ?_))))
  exact gk_ret rfl fun H' hH => rfl

end Go.Rx.Try
