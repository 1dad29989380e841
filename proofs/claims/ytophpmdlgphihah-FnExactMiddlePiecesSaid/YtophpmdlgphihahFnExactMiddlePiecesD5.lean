import Derived.Test.YtophpmdlgphihahFnExactMiddlePiecesD4
namespace Go.Rx.Try
open Go.Proofs
set_option maxRecDepth 100000
set_option maxHeartbeats 8000000
set_option linter.unusedSimpArgs false
set_option linter.unusedVariables false

theorem bestM_ok {f : FuncId} {c : Nat → Nat → Rat} {A : Heap} {X : List Nat} {S : Sig} {H : Heap} {ob : Nat → Option OB} {a : AV} {xs : List Int} (hH : SOk (A.obs ob) X S H.size H) (ha : Ints H a xs) (hS : Steps xs) (hcf : Callable Try.prog f)
    (hf : ∀ {H1 : Heap} {b : AV} {s k : Nat}, s < k → k ≤ xs.length → Ints H1 b (winL xs s k) → ACalls Try.prog f [b] H1 fun r H' => r = frV (c s k) ∧ Le H1 H')
    (hfd : ∀ q k v, Cuts (· + ·) c q 0 k v → k ≤ xs.length → FD v 840 1000000000) (hfc : ∀ s k, s < k → k ≤ xs.length → FD (c s k) 840 1000000000) :
    ACalls Try.prog fn_impl_bestCuts [a, .func f []] H fun r H' => ∃ m0, r = .map m0 ∧ (H.size ≤ H'.size ∧ ∀ i, i < H.size → H'.get i = H.get i) ∧ BestM c xs.length ob H'.ob m0 := by
  have hob : H.ob = ob := hH.le.ob
  have hn1 := hS.2.1
  refine (bestCuts_ok (c := c) ha hS hcf hf hfd hfc).mono ?_
  rintro r H' ⟨m0, L, clk, rfl, h1, h2, h3, h4, h5, h6⟩
  exact ⟨m0, rfl, h1, by rw [← hob]; exact h2, fun j hj => by rw [← hob]; exact h3 j hj, L, clk, h4, h5, h6.same fun q v => ⟨fun h => h.resolve_left fun h => by omega, .inr⟩⟩

theorem bestUpTo_ok {c : Nat → Nat → Rat} {A : Heap} {X : List Nat} {S : Sig} {H : Heap} {ob0 ob : Nat → Option OB} {m0 n P : Nat} {w : Rat} (hH : SOk (A.obs ob) X S H.size H) (h : BestM c n ob0 ob m0) (hn : 1 ≤ n) (hn8 : n ≤ 8) (h1 : 1 ≤ P) (hP : P ≤ 1000) (hw : LeastC (· + ·) (· ≤ ·) c P 0 n w) :
    ACalls Try.prog fn_impl_cuts_upTo [.map m0, .int .i64 (P : Int)] H fun r H' => r = frV w ∧ H' = H := by
  have hob : H.ob = ob := hH.le.ob
  obtain ⟨_, _, L, clk, k1, k2, k3⟩ := h
  refine (upTo_ok (by rw [hob]; exact k1) k2 k3 hP (fun e he => by have := (k3.1 e he).lt; omega) ?_).mono ?_
  · obtain ⟨e, g1, g2, _⟩ := k3.2.1 1 _ (.one (show 0 < n by omega))
    exact ⟨e, g1, by omega⟩
  · rintro r H' ⟨⟨w', rfl, g1, g2⟩, rfl⟩
    exact ⟨by rw [LeastC.uniq cstR ⟨g1, g2⟩ hw], rfl⟩

def apS (m : Int) : List Int → Int
  | [] => 0
  | x :: l => max (x - m) (m - x) + apS m l

theorem apS_perm {m : Int} {xs ys : List Int} (h : xs.Perm ys) : apS m xs = apS m ys := by
  induction h with
  | nil => rfl
  | cons x h ih => rw [apS, apS, ih]
  | swap x y l => simp only [apS]; omega
  | trans h1 h2 ih1 ih2 => exact ih1.trans ih2

theorem apS_app (m : Int) : ∀ (l : List Int) (x : Int), apS m (l ++ [x]) = apS m l + max (x - m) (m - x)
  | [], x => by simp [apS]
  | a :: l, x => by rw [List.cons_append, apS, apS, apS_app m l]; omega

theorem apT_apS (s : List Int) (m : Int) : ∀ j, j ≤ s.length → apT s m j = apS m (s.take j)
  | 0, _ => by simp [apT, apS]
  | j + 1, h => by
    rw [show apT s m (j + 1) = apT s m j + max (nth s j - m) (m - nth s j) from rfl, apT_apS s m j (by omega), List.take_add_one, show s[j]? = some (nth s j) by unfold nth; rw [List.getD_eq_getElem?_getD, List.getElem?_eq_getElem (by omega)]; rfl]
    simp only [Option.toList_some]
    rw [apS_app]

theorem apT_perm {w : List Int} {m : Int} : apT (sortL w) m (sortL w).length = apT w m w.length := by
  rw [apT_apS _ _ _ (Nat.le_refl _), apT_apS _ _ _ (Nat.le_refl _), List.take_length, List.take_length]
  exact apS_perm (sortL_perm w)

theorem missedDistances_ok {H : Heap} {a : AV} {ys : List Int} (ha : Ints H a ys) (hb : ∀ x ∈ ys, -30 ≤ x ∧ x ≤ 30) (h1 : 1 ≤ ys.length) (h2 : ys.length ≤ 8) :
    ACalls Try.prog fn_impl_missedDistances [a] H fun r H' => r = frV ((apL ys : Int) : Rat) ∧ Le H H' := by
  refine code_impl_missedDistances.go [.roI a ys.length ys] ⟨⟨rfl, ha⟩, trivial⟩ (by simp) ?_
  unfold mc_impl_missedDistances
  have hsl : (sortL ys).length = ys.length := sortL_length ys
  have hm := sort_bd hb (ys.length / 2)
  have hbn : ∀ j, -30 ≤ nth ys j ∧ nth ys j ≤ 30 := Bd.nth (fun x hx => hb x hx : Bd 30 ys) (by omega)
  have e0 : apL ys = apT ys (nth (sortL ys) (ys.length / 2)) ys.length := by
    unfold apL; rw [apT_perm, hsl]
  (repeat (first | refine gst (hk := ?_) | (show GO _ _ _ _ _ (⟨some _, none, .call _ _⟩ :: _) _; first | (refine go_calln rfl code_impl_sortedCopy.callable (fun H hH => sortedCopy_ok (hH.ints (by exact Has.auto)) (by omega)) ?_; intro u) | (refine go_calln rfl code_impl_sortedCopy.callable (fun H hH => sortedCopyB_ok (hH.ints (by exact Has.auto)) (by omega)) ?_; intro u)) | (show GO _ _ _ _ _ (⟨some _, none, _⟩ :: _) _; first | refine go_op (hk := ?_) | (refine go_nw (hk := ?_); intro u; try simp only [llc, lln, lna, lza]) | (refine go_np (hk := ?_); intro id)) | (show GO _ _ _ _ _ (⟨none, none, _⟩ :: _) _; refine go_st (hk := ?_)) | (show GO _ _ _ _ _ (⟨_, some _, _⟩ :: _) _; first | refine go_in (hk := ?_) | refine go_out (hk := ?_) | refine go_void (hk := ?_)) | (show GK _ _ _ _ (blockK _ _ _); refine gk_past rfl ?_) | (show GC _ _ _ _ _ (.cond _ _ _) _; first | refine gc_yes (h1 := ?_) | refine gc_no (h1 := ?_))))
  revert id; intro i2
  rw [show (((ys.length : Nat) : Int) / 2).toNat = ys.length / 2 by omega]
  rw [e0]
  generalize nth (sortL ys) (ys.length / 2) = m at hm ⊢
  refine gc_up ys.length (fun j => [(2, .ptr i2 0), (3, .int .i64 m), (4, .int .i64 (apT ys m j)), (14, a), (15, .int .i64 (ys.length : Int)), (16, .int .i64 (j : Int))]) (fun _ => [cel0 i2, .roI a ys.length ys]) (hb := ?_)
  intro j hj I ν mm hk
  have g1 := apT_le hbn hm j
  have g0 := apT_nonneg ys m j
  (repeat (first | refine gst (hk := ?_) | (show GO _ _ _ _ _ (⟨some _, none, .call _ _⟩ :: _) _; first | (refine go_calln rfl code_impl_sortedCopy.callable (fun H hH => sortedCopy_ok (hH.ints (by exact Has.auto)) (by omega)) ?_; intro u) | (refine go_calln rfl code_impl_sortedCopy.callable (fun H hH => sortedCopyB_ok (hH.ints (by exact Has.auto)) (by omega)) ?_; intro u)) | (show GO _ _ _ _ _ (⟨some _, none, _⟩ :: _) _; first | refine go_op (hk := ?_) | (refine go_nw (hk := ?_); intro u; try simp only [llc, lln, lna, lza]) | (refine go_np (hk := ?_); intro id)) | (show GO _ _ _ _ _ (⟨none, none, _⟩ :: _) _; refine go_st (hk := ?_)) | (show GO _ _ _ _ _ (⟨_, some _, _⟩ :: _) _; first | refine go_in (hk := ?_) | refine go_out (hk := ?_) | refine go_void (hk := ?_)) | (show GK _ _ _ _ (blockK _ _ _); refine gk_past rfl ?_) | (show GC _ _ _ _ _ (.cond _ _ _) _; first | refine gc_yes (h1 := ?_) | refine gc_no (h1 := ?_))))
  refine gc_cond rfl (fun h => ?_) (fun h => ?_)
  · have hk := hk (by omega)
    have hx := hbn j
    rw [show apT ys m (j + 1) = apT ys m j + max (nth ys j - m) (m - nth ys j) from rfl] at hk
    (repeat (first | refine gst (hk := ?_) | (show GO _ _ _ _ _ (⟨some _, none, .call _ _⟩ :: _) _; first | (refine go_calln rfl code_impl_sortedCopy.callable (fun H hH => sortedCopy_ok (hH.ints (by exact Has.auto)) (by omega)) ?_; intro u) | (refine go_calln rfl code_impl_sortedCopy.callable (fun H hH => sortedCopyB_ok (hH.ints (by exact Has.auto)) (by omega)) ?_; intro u)) | (show GO _ _ _ _ _ (⟨some _, none, _⟩ :: _) _; first | refine go_op (hk := ?_) | (refine go_nw (hk := ?_); intro u; try simp only [llc, lln, lna, lza]) | (refine go_np (hk := ?_); intro id)) | (show GO _ _ _ _ _ (⟨none, none, _⟩ :: _) _; refine go_st (hk := ?_)) | (show GO _ _ _ _ _ (⟨_, some _, _⟩ :: _) _; first | refine go_in (hk := ?_) | refine go_out (hk := ?_) | refine go_void (hk := ?_)) | (show GK _ _ _ _ (blockK _ _ _); refine gk_past rfl ?_) | (show GC _ _ _ _ _ (.cond _ _ _) _; first | refine gc_yes (h1 := ?_) | refine gc_no (h1 := ?_))))
    refine go_callp rfl code_impl_apart.callable (fun H hH => implApart_ok (x := nth ys j) (y := m) (by omega) (by omega)) ?_
    (repeat (first | refine gst (hk := ?_) | (show GO _ _ _ _ _ (⟨some _, none, .call _ _⟩ :: _) _; first | (refine go_calln rfl code_impl_sortedCopy.callable (fun H hH => sortedCopy_ok (hH.ints (by exact Has.auto)) (by omega)) ?_; intro u) | (refine go_calln rfl code_impl_sortedCopy.callable (fun H hH => sortedCopyB_ok (hH.ints (by exact Has.auto)) (by omega)) ?_; intro u)) | (show GO _ _ _ _ _ (⟨some _, none, _⟩ :: _) _; first | refine go_op (hk := ?_) | (refine go_nw (hk := ?_); intro u; try simp only [llc, lln, lna, lza]) | (refine go_np (hk := ?_); intro id)) | (show GO _ _ _ _ _ (⟨none, none, _⟩ :: _) _; refine go_st (hk := ?_)) | (show GO _ _ _ _ _ (⟨_, some _, _⟩ :: _) _; first | refine go_in (hk := ?_) | refine go_out (hk := ?_) | refine go_void (hk := ?_)) | (show GK _ _ _ _ (blockK _ _ _); refine gk_past rfl ?_) | (show GC _ _ _ _ _ (.cond _ _ _) _; first | refine gc_yes (h1 := ?_) | refine gc_no (h1 := ?_))))
    exact gk_next hk
  · obtain rfl : j = ys.length := by omega
    (repeat (first | refine gst (hk := ?_) | (show GO _ _ _ _ _ (⟨some _, none, .call _ _⟩ :: _) _; first | (refine go_calln rfl code_impl_sortedCopy.callable (fun H hH => sortedCopy_ok (hH.ints (by exact Has.auto)) (by omega)) ?_; intro u) | (refine go_calln rfl code_impl_sortedCopy.callable (fun H hH => sortedCopyB_ok (hH.ints (by exact Has.auto)) (by omega)) ?_; intro u)) | (show GO _ _ _ _ _ (⟨some _, none, _⟩ :: _) _; first | refine go_op (hk := ?_) | (refine go_nw (hk := ?_); intro u; try simp only [llc, lln, lna, lza]) | (refine go_np (hk := ?_); intro id)) | (show GO _ _ _ _ _ (⟨none, none, _⟩ :: _) _; refine go_st (hk := ?_)) | (show GO _ _ _ _ _ (⟨_, some _, _⟩ :: _) _; first | refine go_in (hk := ?_) | refine go_out (hk := ?_) | refine go_void (hk := ?_)) | (show GK _ _ _ _ (blockK _ _ _); refine gk_past rfl ?_) | (show GC _ _ _ _ _ (.cond _ _ _) _; first | refine gc_yes (h1 := ?_) | refine gc_no (h1 := ?_))))
    refine go_callp rfl code_impl_whole.callable (fun H hH => implWhole_ok (n := apT ys m ys.length)) ?_
    (repeat (first | refine gst (hk := ?_) | (show GO _ _ _ _ _ (⟨some _, none, .call _ _⟩ :: _) _; first | (refine go_calln rfl code_impl_sortedCopy.callable (fun H hH => sortedCopy_ok (hH.ints (by exact Has.auto)) (by omega)) ?_; intro u) | (refine go_calln rfl code_impl_sortedCopy.callable (fun H hH => sortedCopyB_ok (hH.ints (by exact Has.auto)) (by omega)) ?_; intro u)) | (show GO _ _ _ _ _ (⟨some _, none, _⟩ :: _) _; first | refine go_op (hk := ?_) | (refine go_nw (hk := ?_); intro u; try simp only [llc, lln, lna, lza]) | (refine go_np (hk := ?_); intro id)) | (show GO _ _ _ _ _ (⟨none, none, _⟩ :: _) _; refine go_st (hk := ?_)) | (show GO _ _ _ _ _ (⟨_, some _, _⟩ :: _) _; first | refine go_in (hk := ?_) | refine go_out (hk := ?_) | refine go_void (hk := ?_)) | (show GK _ _ _ _ (blockK _ _ _); refine gk_past rfl ?_) | (show GC _ _ _ _ _ (.cond _ _ _) _; first | refine gc_yes (h1 := ?_) | refine gc_no (h1 := ?_))))
    exact gk_rets (rvs_c rfl (by exact Sel.auto) rfl rfl rvs_nil) fun H' hH => ⟨rfl, hH.leE⟩

theorem missedDistances_win {H : Heap} {b : AV} {xs : List Int} {s k : Nat} (hS : Steps xs) (h1 : s < k) (h2 : k ≤ xs.length) (hb : Ints H b (winL xs s k)) : ACalls Try.prog fn_impl_missedDistances [b] H fun r H' => r = frV ((apI xs s k : Int) : Rat) ∧ Le H H' := by
  have hn := hS.2.2
  have hl := win_len2 (xs := xs) (i := s) h2
  exact missedDistances_ok hb (fun x hx => hS.1 x (by unfold winL at hx; exact List.mem_of_mem_drop (List.mem_of_mem_take hx))) (by omega) (by omega)

/-- whole numbers as fractions -/
theorem cutsZ {f : Nat → Nat → Int} {q i k : Nat} {v : Rat} (h : Cuts (· + ·) (fun s k => ((f s k : Int) : Rat)) q i k v) : ∃ w : Int, v = (w : Rat) ∧ Cuts (· + ·) f q i k w := by
  induction h with
  | one h => exact ⟨_, rfl, .one h⟩
  | snoc h hk ih =>
    obtain ⟨w, rfl, h2⟩ := ih
    exact ⟨_, (Rat.intCast_add _ _).symm, .snoc h2 hk⟩

theorem cutsZ' {f : Nat → Nat → Int} {q i k : Nat} {w : Int} (h : Cuts (· + ·) f q i k w) : Cuts (· + ·) (fun s k => ((f s k : Int) : Rat)) q i k (w : Rat) := by
  induction h with
  | one h => exact .one h
  | snoc h hk ih => rw [Rat.intCast_add]; exact .snoc ih hk

theorem leastZ {f : Nat → Nat → Int} {P i k : Nat} {w : Int} (h : LeastC (· + ·) (· ≤ ·) f P i k w) : LeastC (· + ·) (· ≤ ·) (fun s k => ((f s k : Int) : Rat)) P i k (w : Rat) := by
  obtain ⟨⟨q, h1, h2⟩, h3⟩ := h
  refine ⟨⟨q, h1, cutsZ' h2⟩, fun q v hq hv => ?_⟩
  obtain ⟨w', rfl, g⟩ := cutsZ hv
  exact Rat.intCast_le_intCast.2 (h3 q w' hq g)

theorem fd_int {w B : Int} (h : -B ≤ 840 * w ∧ 840 * w ≤ B) : FD (w : Rat) 840 B := ⟨by omega, 840 * w, by rw [Rat.intCast_mul]; grind, h.1, h.2⟩

theorem Steps.di_fd {xs : List Int} (hS : Steps xs) : ∀ q k v, Cuts (· + ·) (fun s k => ((apI xs s k : Int) : Rat)) q 0 k v → k ≤ xs.length → FD v 840 1000000000 := fun q k v h hk => by
  have hn := hS.2.2
  obtain ⟨w, rfl, g⟩ := cutsZ h
  have := ap_cuts hS g hk
  exact fd_int (by omega)

theorem Steps.di_fc {xs : List Int} (hS : Steps xs) : ∀ s k, s < k → k ≤ xs.length → FD ((apI xs s k : Int) : Rat) 840 1000000000 := fun s k h hk => by
  have hn := hS.2.2
  have := ap_bd hS.1 s k
  have := win_len2 (xs := xs) (i := s) hk
  exact fd_int (by omega)

theorem implMiddlePieces_ok {H : Heap} {a : AV} {xs : List Int} {p : Int} (ha : Ints H a xs) (hl : xs.length ≤ 1000000000) :
    ACalls Try.prog fn_impl_MiddlePieces [a, .int .i64 p] H fun r H' => r = .int .i64 (if PsOk xs p then mpV xs p.toNat else -1) ∧ H' = H := by
  refine acalls_plain (R := fun r => r = .int .i64 (if PsOk xs p then mpV xs p.toNat else -1)) ?_ (by rintro r rfl; rfl)
  refine code_impl_MiddlePieces.go [.roI a xs.length xs] ⟨⟨rfl, ha⟩, trivial⟩ (by simp) ?_
  unfold mc_impl_MiddlePieces
  change GC Try.prog (H.obs H.ob) [] _ _ _ _
  (repeat (first | refine gst (hk := ?_) | (show GO _ _ _ _ _ (⟨some _, none, _⟩ :: _) _; first | refine go_op (hk := ?_) | (refine go_nw (hk := ?_); intro u; try simp only [llc, lln, lna, lza]) | (refine go_np (hk := ?_); intro id)) | (show GO _ _ _ _ _ (⟨none, none, _⟩ :: _) _; refine go_st (hk := ?_)) | (show GO _ _ _ _ _ (⟨_, some _, _⟩ :: _) _; first | refine go_in (hk := ?_) | refine go_out (hk := ?_) | refine go_void (hk := ?_)) | (show GK _ _ _ _ (blockK _ _ _); refine gk_past rfl ?_) | (show GC _ _ _ _ _ (.cond _ _ _) _; first | refine gc_yes (h1 := ?_) | refine gc_no (h1 := ?_))))
  refine go_callp rfl code_impl_validPieces.callable (fun H hH => validPieces_ok (hH.ints (by exact Has.auto)) hl) ?_
  (repeat (first | refine gst (hk := ?_) | (show GO _ _ _ _ _ (⟨some _, none, _⟩ :: _) _; first | refine go_op (hk := ?_) | (refine go_nw (hk := ?_); intro u; try simp only [llc, lln, lna, lza]) | (refine go_np (hk := ?_); intro id)) | (show GO _ _ _ _ _ (⟨none, none, _⟩ :: _) _; refine go_st (hk := ?_)) | (show GO _ _ _ _ _ (⟨_, some _, _⟩ :: _) _; first | refine go_in (hk := ?_) | refine go_out (hk := ?_) | refine go_void (hk := ?_)) | (show GK _ _ _ _ (blockK _ _ _); refine gk_past rfl ?_) | (show GC _ _ _ _ _ (.cond _ _ _) _; first | refine gc_yes (h1 := ?_) | refine gc_no (h1 := ?_))))
  refine gc_cond rfl (fun h1 => ?_) (fun h1 => ?_)
  · (repeat (first | refine gst (hk := ?_) | (show GO _ _ _ _ _ (⟨some _, none, _⟩ :: _) _; first | refine go_op (hk := ?_) | (refine go_nw (hk := ?_); intro u; try simp only [llc, lln, lna, lza]) | (refine go_np (hk := ?_); intro id)) | (show GO _ _ _ _ _ (⟨none, none, _⟩ :: _) _; refine go_st (hk := ?_)) | (show GO _ _ _ _ _ (⟨_, some _, _⟩ :: _) _; first | refine go_in (hk := ?_) | refine go_out (hk := ?_) | refine go_void (hk := ?_)) | (show GK _ _ _ _ (blockK _ _ _); refine gk_past rfl ?_) | (show GC _ _ _ _ _ (.cond _ _ _) _; first | refine gc_yes (h1 := ?_) | refine gc_no (h1 := ?_))))
    exact gk_ret rfl fun H' hH => ⟨by rw [if_neg h1]; rfl, _, _, hH, ExO.refl _ _⟩
  have hP := Decidable.not_not.1 h1
  have hS := hP.1
  have hn := hS.2.2
  obtain ⟨p', rfl⟩ : ∃ p' : Nat, p = (p' : Int) := ⟨p.toNat, by have := hP.2; omega⟩
  have hp1 : 1 ≤ p' := by have := hP.2; omega
  have hp8 : p' ≤ 8 := by have := hP.2; omega
  rw [if_pos hP]
  simp only [Int.toNat_natCast]
  (repeat (first | refine gst (hk := ?_) | (show GO _ _ _ _ _ (⟨some _, none, _⟩ :: _) _; first | refine go_op (hk := ?_) | (refine go_nw (hk := ?_); intro u; try simp only [llc, lln, lna, lza]) | (refine go_np (hk := ?_); intro id)) | (show GO _ _ _ _ _ (⟨none, none, _⟩ :: _) _; refine go_st (hk := ?_)) | (show GO _ _ _ _ _ (⟨_, some _, _⟩ :: _) _; first | refine go_in (hk := ?_) | refine go_out (hk := ?_) | refine go_void (hk := ?_)) | (show GK _ _ _ _ (blockK _ _ _); refine gk_past rfl ?_) | (show GC _ _ _ _ _ (.cond _ _ _) _; first | refine gc_yes (h1 := ?_) | refine gc_no (h1 := ?_))))
  refine go_callM rfl code_impl_bestCuts.callable (fun H1 hH => bestM_ok (c := fun s k => ((apI xs s k : Int) : Rat)) hH (hH.ints (by exact Has.auto)) hS code_impl_missedDistances.callable (fun h1 h2 hb => missedDistances_win hS h1 h2 hb) hS.di_fd hS.di_fc) (fun ob m0 hB => ?_)
  (repeat (first | refine gst (hk := ?_) | (show GO _ _ _ _ _ (⟨some _, none, _⟩ :: _) _; first | refine go_op (hk := ?_) | (refine go_nw (hk := ?_); intro u; try simp only [llc, lln, lna, lza]) | (refine go_np (hk := ?_); intro id)) | (show GO _ _ _ _ _ (⟨none, none, _⟩ :: _) _; refine go_st (hk := ?_)) | (show GO _ _ _ _ _ (⟨_, some _, _⟩ :: _) _; first | refine go_in (hk := ?_) | refine go_out (hk := ?_) | refine go_void (hk := ?_)) | (show GK _ _ _ _ (blockK _ _ _); refine gk_past rfl ?_) | (show GC _ _ _ _ _ (.cond _ _ _) _; first | refine gc_yes (h1 := ?_) | refine gc_no (h1 := ?_))))
  refine go_callp rfl code_impl_cuts_upTo.callable (fun H1 hH => bestUpTo_ok hH hB hS.2.1 hn hp1 (by omega) (leastZ (mp_least hS hp1))) ?_
  refine go_recall 12 (.agg [.int .i64 (mpV xs p'), .int .i64 1]) rfl (by simp [frV]) ?_
  refine go_is rfl (stp_fld (v := .int .i64 (mpV xs p')) rfl (by simp) rfl) ?_
  (repeat (first | refine gst (hk := ?_) | (show GO _ _ _ _ _ (⟨some _, none, _⟩ :: _) _; first | refine go_op (hk := ?_) | (refine go_nw (hk := ?_); intro u; try simp only [llc, lln, lna, lza]) | (refine go_np (hk := ?_); intro id)) | (show GO _ _ _ _ _ (⟨none, none, _⟩ :: _) _; refine go_st (hk := ?_)) | (show GO _ _ _ _ _ (⟨_, some _, _⟩ :: _) _; first | refine go_in (hk := ?_) | refine go_out (hk := ?_) | refine go_void (hk := ?_)) | (show GK _ _ _ _ (blockK _ _ _); refine gk_past rfl ?_) | (show GC _ _ _ _ _ (.cond _ _ _) _; first | refine gc_yes (h1 := ?_) | refine gc_no (h1 := ?_))))
  exact gk_ret rfl fun H' hH => ⟨rfl, _, _, hH, hB.ex⟩

theorem lawFnExactMiddlePieces_ok {H : Heap} {a : AV} {xs : List Int} {p : Int} (ha : Ints H a xs) (_ : (Lit.int .i64 p).wf = true) : ACalls Try.prog fn_laws_FnExactMiddlePieces [a, .int .i64 p] H fun r _ => r = .bool true := by
  refine code_laws_FnExactMiddlePieces.go [.roI a xs.length xs] ⟨⟨rfl, ha⟩, trivial⟩ (by simp) ?_
  unfold mc_laws_FnExactMiddlePieces
  (repeat (first | refine gst (hk := ?_) | (show GO _ _ _ _ _ (⟨some _, none, .call _ _⟩ :: _) _; first | (show GO _ _ _ _ _ (⟨some _, none, .call fn_laws_toIntS _⟩ :: _) _; refine go_toIntS (hk := ?_); try intro u) | (show GO _ _ _ _ _ (⟨some _, none, .call fn_laws_eqIntS _⟩ :: _) _; refine go_eqIntS (hk := ?_); try intro u) | (refine go_callp rfl code_spec_MiddlePieces.callable (fun H hH => specMiddlePieces_ok (hH.ints (by exact Has.auto)) (by omega)) ?_) | (refine go_callp rfl code_impl_MiddlePieces.callable (fun H hH => implMiddlePieces_ok (hH.ints (by exact Has.auto)) (by omega)) ?_)) | (show GO _ _ _ _ _ (⟨some _, none, _⟩ :: _) _; first | refine go_op (hk := ?_) | (refine go_nw (hk := ?_); intro u; try simp only [llc, lln, lna, lza]) | (refine go_np (hk := ?_); intro id)) | (show GO _ _ _ _ _ (⟨none, none, _⟩ :: _) _; refine go_st (hk := ?_)) | (show GO _ _ _ _ _ (⟨_, some _, _⟩ :: _) _; first | refine go_in (hk := ?_) | refine go_out (hk := ?_) | refine go_void (hk := ?_)) | (show GK _ _ _ _ (blockK _ _ _); refine gk_past rfl ?_) | (show GC _ _ _ _ _ (.cond _ _ _) _; first | refine gc_yes (h1 := ?_) | refine gc_no (h1 := ?_))))
  refine gc_cond rfl (fun h => ?_) (fun h => ?_)
  · (repeat (first | refine gst (hk := ?_) | (show GO _ _ _ _ _ (⟨some _, none, .call _ _⟩ :: _) _; first | (show GO _ _ _ _ _ (⟨some _, none, .call fn_laws_toIntS _⟩ :: _) _; refine go_toIntS (hk := ?_); try intro u) | (show GO _ _ _ _ _ (⟨some _, none, .call fn_laws_eqIntS _⟩ :: _) _; refine go_eqIntS (hk := ?_); try intro u) | (refine go_callp rfl code_spec_MiddlePieces.callable (fun H hH => specMiddlePieces_ok (hH.ints (by exact Has.auto)) (by omega)) ?_) | (refine go_callp rfl code_impl_MiddlePieces.callable (fun H hH => implMiddlePieces_ok (hH.ints (by exact Has.auto)) (by omega)) ?_)) | (show GO _ _ _ _ _ (⟨some _, none, _⟩ :: _) _; first | refine go_op (hk := ?_) | (refine go_nw (hk := ?_); intro u; try simp only [llc, lln, lna, lza]) | (refine go_np (hk := ?_); intro id)) | (show GO _ _ _ _ _ (⟨none, none, _⟩ :: _) _; refine go_st (hk := ?_)) | (show GO _ _ _ _ _ (⟨_, some _, _⟩ :: _) _; first | refine go_in (hk := ?_) | refine go_out (hk := ?_) | refine go_void (hk := ?_)) | (show GK _ _ _ _ (blockK _ _ _); refine gk_past rfl ?_) | (show GC _ _ _ _ _ (.cond _ _ _) _; first | refine gc_yes (h1 := ?_) | refine gc_no (h1 := ?_))))
    exact gk_ret rfl fun H' hH => rfl
  (repeat (first | refine gst (hk := ?_) | (show GO _ _ _ _ _ (⟨some _, none, .call _ _⟩ :: _) _; first | (show GO _ _ _ _ _ (⟨some _, none, .call fn_laws_toIntS _⟩ :: _) _; refine go_toIntS (hk := ?_); try intro u) | (show GO _ _ _ _ _ (⟨some _, none, .call fn_laws_eqIntS _⟩ :: _) _; refine go_eqIntS (hk := ?_); try intro u) | (refine go_callp rfl code_spec_MiddlePieces.callable (fun H hH => specMiddlePieces_ok (hH.ints (by exact Has.auto)) (by omega)) ?_) | (refine go_callp rfl code_impl_MiddlePieces.callable (fun H hH => implMiddlePieces_ok (hH.ints (by exact Has.auto)) (by omega)) ?_)) | (show GO _ _ _ _ _ (⟨some _, none, _⟩ :: _) _; first | refine go_op (hk := ?_) | (refine go_nw (hk := ?_); intro u; try simp only [llc, lln, lna, lza]) | (refine go_np (hk := ?_); intro id)) | (show GO _ _ _ _ _ (⟨none, none, _⟩ :: _) _; refine go_st (hk := ?_)) | (show GO _ _ _ _ _ (⟨_, some _, _⟩ :: _) _; first | refine go_in (hk := ?_) | refine go_out (hk := ?_) | refine go_void (hk := ?_)) | (show GK _ _ _ _ (blockK _ _ _); refine gk_past rfl ?_) | (show GC _ _ _ _ _ (.cond _ _ _) _; first | refine gc_yes (h1 := ?_) | refine gc_no (h1 := ?_))))
  refine gc_cond rfl (fun hc => absurd rfl hc) (fun _ => ?_)
  (repeat (first | refine gst (hk := ?_) | (show GO _ _ _ _ _ (⟨some _, none, .call _ _⟩ :: _) _; first | (show GO _ _ _ _ _ (⟨some _, none, .call fn_laws_toIntS _⟩ :: _) _; refine go_toIntS (hk := ?_); try intro u) | (show GO _ _ _ _ _ (⟨some _, none, .call fn_laws_eqIntS _⟩ :: _) _; refine go_eqIntS (hk := ?_); try intro u) | (refine go_callp rfl code_spec_MiddlePieces.callable (fun H hH => specMiddlePieces_ok (hH.ints (by exact Has.auto)) (by omega)) ?_) | (refine go_callp rfl code_impl_MiddlePieces.callable (fun H hH => implMiddlePieces_ok (hH.ints (by exact Has.auto)) (by omega)) ?_)) | (show GO _ _ _ _ _ (⟨some _, none, _⟩ :: _) _; first | refine go_op (hk := ?_) | (refine go_nw (hk := ?_); intro u; try simp only [llc, lln, lna, lza]) | (refine go_np (hk := ?_); intro id)) | (show GO _ _ _ _ _ (⟨none, none, _⟩ :: _) _; refine go_st (hk := ?_)) | (show GO _ _ _ _ _ (⟨_, some _, _⟩ :: _) _; first | refine go_in (hk := ?_) | refine go_out (hk := ?_) | refine go_void (hk := ?_)) | (show GK _ _ _ _ (blockK _ _ _); refine gk_past rfl ?_) | (show GC _ _ _ _ _ (.cond _ _ _) _; first | refine gc_yes (h1 := ?_) | refine gc_no (h1 := ?_))))
  refine gc_cond rfl (fun hc => absurd rfl hc) (fun _ => ?_)
  (repeat (first | refine gst (hk := ?_) | (show GO _ _ _ _ _ (⟨some _, none, .call _ _⟩ :: _) _; first | (show GO _ _ _ _ _ (⟨some _, none, .call fn_laws_toIntS _⟩ :: _) _; refine go_toIntS (hk := ?_); try intro u) | (show GO _ _ _ _ _ (⟨some _, none, .call fn_laws_eqIntS _⟩ :: _) _; refine go_eqIntS (hk := ?_); try intro u) | (refine go_callp rfl code_spec_MiddlePieces.callable (fun H hH => specMiddlePieces_ok (hH.ints (by exact Has.auto)) (by omega)) ?_) | (refine go_callp rfl code_impl_MiddlePieces.callable (fun H hH => implMiddlePieces_ok (hH.ints (by exact Has.auto)) (by omega)) ?_)) | (show GO _ _ _ _ _ (⟨some _, none, _⟩ :: _) _; first | refine go_op (hk := ?_) | (refine go_nw (hk := ?_); intro u; try simp only [llc, lln, lna, lza]) | (refine go_np (hk := ?_); intro id)) | (show GO _ _ _ _ _ (⟨none, none, _⟩ :: _) _; refine go_st (hk := ?_)) | (show GO _ _ _ _ _ (⟨_, some _, _⟩ :: _) _; first | refine go_in (hk := ?_) | refine go_out (hk := ?_) | refine go_void (hk := ?_)) | (show GK _ _ _ _ (blockK _ _ _); refine gk_past rfl ?_) | (show GC _ _ _ _ _ (.cond _ _ _) _; first | refine gc_yes (h1 := ?_) | refine gc_no (h1 := ?_))))
  exact gk_ret rfl fun H' hH => rfl

end Go.Rx.Try
