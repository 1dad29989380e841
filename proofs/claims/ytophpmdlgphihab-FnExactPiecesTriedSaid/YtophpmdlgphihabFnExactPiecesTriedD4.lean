import Derived.Test.YtophpmdlgphihabFnExactPiecesTriedD3
namespace Go.Rx.Try
open Go.Proofs
set_option maxRecDepth 100000
set_option maxHeartbeats 8000000
set_option linter.unusedSimpArgs false
set_option linter.unusedVariables false

theorem allCuts1_ok {A : Heap} {X : List Nat} {H : Heap} {id i1 i2 P : Nat} {a : AV} {xs : List Int} {γ : Type} (hn : 1 ≤ xs.length) (hn8 : xs.length ≤ 8) (R : Nat → γ → Sig) (hskip : ∀ p, p < 2 ^ (xs.length - 1) → P < (pcS xs.length p).length → ∀ z, R (p + 1) z = R p z)
    (hy : ∀ p, p < 2 ^ (xs.length - 1) → (pcS xs.length p).length ≤ P → ∀ v z H', SOk A X (rowsC v a (pcS xs.length p) :: (acS i1 i2 a xs P ++ R p z)) H'.size H' → AYield Try.prog id [v] H' fun t H'' => t = true ∧ ∃ z', SOk A X (acS i1 i2 a xs P ++ R (p + 1) z') H''.size H'')
    (z0 : γ) (hS : SOk A X (acS i1 i2 a xs P ++ R 0 z0) H.size H) :
    ACalls Try.prog fn_impl_allCuts_1 [.yld id, .ptr i1 0, .ptr i2 0] H fun _ H' => ∃ z, SOk A X (acS i1 i2 a xs P ++ R (2 ^ (xs.length - 1)) z) H'.size H' := by
  refine code_impl_allCuts_1.gos hS (by simp) ?_
  unfold mc_impl_allCuts_1
  have h1 : 2 ^ (xs.length - 1) ≤ 2 ^ 7 := Nat.pow_le_pow_right (by omega) (by omega)
  have h2 : 0 < 2 ^ (xs.length - 1) := Nat.pow_pos (by omega)
  (repeat (first | refine gst (hk := ?_) | (show GO _ _ _ _ _ (⟨some _, none, .call _ _⟩ :: _) _; first | (refine go_callp rfl code_impl_firstPlaces.callable (fun H hH => firstPlaces_ok (by omega)) ?_)) | (show GO _ _ _ _ _ (⟨some _, none, _⟩ :: _) _; first | refine go_op (hk := ?_) | (refine go_nw (hk := ?_); intro u; try simp only [llc, lln, lna, lza]) | (refine go_np (hk := ?_); intro id)) | (show GO _ _ _ _ _ (⟨none, none, _⟩ :: _) _; refine go_st (hk := ?_)) | (show GO _ _ _ _ _ (⟨_, some _, _⟩ :: _) _; first | refine go_in (hk := ?_) | refine go_out (hk := ?_) | refine go_void (hk := ?_)) | (show GK _ _ _ _ (blockK _ _ _); refine gk_past rfl ?_) | (show GC _ _ _ _ _ (.cond _ _ _) _; first | refine gc_yes (h1 := ?_) | refine gc_no (h1 := ?_))))
  refine go_recall 8 (.int .i64 ((xs.length - 1 : Nat) : Int)) rfl (by congr 1; omega) ?_
  (repeat (first | refine gst (hk := ?_) | (show GO _ _ _ _ _ (⟨some _, none, .call _ _⟩ :: _) _; first | (refine go_callp rfl code_impl_firstPlaces.callable (fun H hH => firstPlaces_ok (by omega)) ?_)) | (show GO _ _ _ _ _ (⟨some _, none, _⟩ :: _) _; first | refine go_op (hk := ?_) | (refine go_nw (hk := ?_); intro u; try simp only [llc, lln, lna, lza]) | (refine go_np (hk := ?_); intro id)) | (show GO _ _ _ _ _ (⟨none, none, _⟩ :: _) _; refine go_st (hk := ?_)) | (show GO _ _ _ _ _ (⟨_, some _, _⟩ :: _) _; first | refine go_in (hk := ?_) | refine go_out (hk := ?_) | refine go_void (hk := ?_)) | (show GK _ _ _ _ (blockK _ _ _); refine gk_past rfl ?_) | (show GC _ _ _ _ _ (.cond _ _ _) _; first | refine gc_yes (h1 := ?_) | refine gc_no (h1 := ?_))))
  refine gc_loop (γ := Nat × γ) (fun g => [(0, .yld id), (1, .ptr i1 0), (2, .ptr i2 0), (10, .int .u64 ((2 ^ (xs.length - 1) : Nat) : Int)), (11, .int .u64 (g.1 : Int))]) (fun g => acS i1 i2 a xs P ++ R g.1 g.2) (fun g => g.1 ≤ 2 ^ (xs.length - 1)) (fun g => 2 ^ (xs.length - 1) - g.1) (0, z0) (Nat.zero_le _) (hS := sub_refl _) (hb := ?_)
  rintro ⟨p, z⟩ hp I ν m hk
  dsimp only at hp hk ⊢
  (repeat (first | refine gst (hk := ?_) | (show GO _ _ _ _ _ (⟨some _, none, .call _ _⟩ :: _) _; first | (refine go_callp rfl code_impl_firstPlaces.callable (fun H hH => firstPlaces_ok (by omega)) ?_)) | (show GO _ _ _ _ _ (⟨some _, none, _⟩ :: _) _; first | refine go_op (hk := ?_) | (refine go_nw (hk := ?_); intro u; try simp only [llc, lln, lna, lza]) | (refine go_np (hk := ?_); intro id)) | (show GO _ _ _ _ _ (⟨none, none, _⟩ :: _) _; refine go_st (hk := ?_)) | (show GO _ _ _ _ _ (⟨_, some _, _⟩ :: _) _; first | refine go_in (hk := ?_) | refine go_out (hk := ?_) | refine go_void (hk := ?_)) | (show GK _ _ _ _ (blockK _ _ _); refine gk_past rfl ?_) | (show GC _ _ _ _ _ (.cond _ _ _) _; first | refine gc_yes (h1 := ?_) | refine gc_no (h1 := ?_))))
  refine gc_cond rfl (fun h => ?_) (fun h => ?_)
  · have hp' : p < 2 ^ (xs.length - 1) := by omega
    (repeat (first | refine gst (hk := ?_) | (show GO _ _ _ _ _ (⟨some _, none, .call _ _⟩ :: _) _; first | (refine go_callp rfl code_impl_firstPlaces.callable (fun H hH => firstPlaces_ok (by omega)) ?_)) | (show GO _ _ _ _ _ (⟨some _, none, _⟩ :: _) _; first | refine go_op (hk := ?_) | (refine go_nw (hk := ?_); intro u; try simp only [llc, lln, lna, lza]) | (refine go_np (hk := ?_); intro id)) | (show GO _ _ _ _ _ (⟨none, none, _⟩ :: _) _; refine go_st (hk := ?_)) | (show GO _ _ _ _ _ (⟨_, some _, _⟩ :: _) _; first | refine go_in (hk := ?_) | refine go_out (hk := ?_) | refine go_void (hk := ?_)) | (show GK _ _ _ _ (blockK _ _ _); refine gk_past rfl ?_) | (show GC _ _ _ _ _ (.cond _ _ _) _; first | refine gc_yes (h1 := ?_) | refine gc_no (h1 := ?_))))
    refine go_callg (γ := AV) (V := fun g => g) (T := fun g => rowsC g a (pcS xs.length p) :: (acS i1 i2 a xs P ++ R p z)) (Φ := fun _ => True) rfl code_impl_piecesBehind.callable (fun H hH => piecesBehind_ok hH (hH.ints (by exact Has.auto)) hn hn8 hp') ?_
    intro v _
    have hlen := (bcS_le (p + 2 ^ (xs.length - 1)) xs.length).2
    rw [show (bcS (p + 2 ^ (xs.length - 1)) xs.length).2 = pcS xs.length p from rfl] at hlen
    (repeat (first | refine gst (hk := ?_) | (show GO _ _ _ _ _ (⟨some _, none, .call _ _⟩ :: _) _; first | (refine go_callp rfl code_impl_firstPlaces.callable (fun H hH => firstPlaces_ok (by omega)) ?_)) | (show GO _ _ _ _ _ (⟨some _, none, _⟩ :: _) _; first | refine go_op (hk := ?_) | (refine go_nw (hk := ?_); intro u; try simp only [llc, lln, lna, lza]) | (refine go_np (hk := ?_); intro id)) | (show GO _ _ _ _ _ (⟨none, none, _⟩ :: _) _; refine go_st (hk := ?_)) | (show GO _ _ _ _ _ (⟨_, some _, _⟩ :: _) _; first | refine go_in (hk := ?_) | refine go_out (hk := ?_) | refine go_void (hk := ?_)) | (show GK _ _ _ _ (blockK _ _ _); refine gk_past rfl ?_) | (show GC _ _ _ _ _ (.cond _ _ _) _; first | refine gc_yes (h1 := ?_) | refine gc_no (h1 := ?_))))
    refine go_split 21 rfl (fun h3 => ?_) (fun h3 => ?_)
    · (repeat (first | refine gst (hk := ?_) | (show GO _ _ _ _ _ (⟨some _, none, .call _ _⟩ :: _) _; first | (refine go_callp rfl code_impl_firstPlaces.callable (fun H hH => firstPlaces_ok (by omega)) ?_)) | (show GO _ _ _ _ _ (⟨some _, none, _⟩ :: _) _; first | refine go_op (hk := ?_) | (refine go_nw (hk := ?_); intro u; try simp only [llc, lln, lna, lza]) | (refine go_np (hk := ?_); intro id)) | (show GO _ _ _ _ _ (⟨none, none, _⟩ :: _) _; refine go_st (hk := ?_)) | (show GO _ _ _ _ _ (⟨_, some _, _⟩ :: _) _; first | refine go_in (hk := ?_) | refine go_out (hk := ?_) | refine go_void (hk := ?_)) | (show GK _ _ _ _ (blockK _ _ _); refine gk_past rfl ?_) | (show GC _ _ _ _ _ (.cond _ _ _) _; first | refine gc_yes (h1 := ?_) | refine gc_no (h1 := ?_))))
      refine go_yieldE rfl rfl (hy p hp' (by omega) v z) (fun z' => ?_)
      (repeat (first | refine gst (hk := ?_) | (show GO _ _ _ _ _ (⟨some _, none, .call _ _⟩ :: _) _; first | (refine go_callp rfl code_impl_firstPlaces.callable (fun H hH => firstPlaces_ok (by omega)) ?_)) | (show GO _ _ _ _ _ (⟨some _, none, _⟩ :: _) _; first | refine go_op (hk := ?_) | (refine go_nw (hk := ?_); intro u; try simp only [llc, lln, lna, lza]) | (refine go_np (hk := ?_); intro id)) | (show GO _ _ _ _ _ (⟨none, none, _⟩ :: _) _; refine go_st (hk := ?_)) | (show GO _ _ _ _ _ (⟨_, some _, _⟩ :: _) _; first | refine go_in (hk := ?_) | refine go_out (hk := ?_) | refine go_void (hk := ?_)) | (show GK _ _ _ _ (blockK _ _ _); refine gk_past rfl ?_) | (show GC _ _ _ _ _ (.cond _ _ _) _; first | refine gc_yes (h1 := ?_) | refine gc_no (h1 := ?_))))
      rw [show (!true) = false from rfl]
      (repeat (first | refine gst (hk := ?_) | (show GO _ _ _ _ _ (⟨some _, none, .call _ _⟩ :: _) _; first | (refine go_callp rfl code_impl_firstPlaces.callable (fun H hH => firstPlaces_ok (by omega)) ?_)) | (show GO _ _ _ _ _ (⟨some _, none, _⟩ :: _) _; first | refine go_op (hk := ?_) | (refine go_nw (hk := ?_); intro u; try simp only [llc, lln, lna, lza]) | (refine go_np (hk := ?_); intro id)) | (show GO _ _ _ _ _ (⟨none, none, _⟩ :: _) _; refine go_st (hk := ?_)) | (show GO _ _ _ _ _ (⟨_, some _, _⟩ :: _) _; first | refine go_in (hk := ?_) | refine go_out (hk := ?_) | refine go_void (hk := ?_)) | (show GK _ _ _ _ (blockK _ _ _); refine gk_past rfl ?_) | (show GC _ _ _ _ _ (.cond _ _ _) _; first | refine gc_yes (h1 := ?_) | refine gc_no (h1 := ?_))))
      exact gk_next (hk (p + 1, z') (by dsimp only; omega) (by dsimp only; omega)) (hs := sub_refl _)
    · (repeat (first | refine gst (hk := ?_) | (show GO _ _ _ _ _ (⟨some _, none, .call _ _⟩ :: _) _; first | (refine go_callp rfl code_impl_firstPlaces.callable (fun H hH => firstPlaces_ok (by omega)) ?_)) | (show GO _ _ _ _ _ (⟨some _, none, _⟩ :: _) _; first | refine go_op (hk := ?_) | (refine go_nw (hk := ?_); intro u; try simp only [llc, lln, lna, lza]) | (refine go_np (hk := ?_); intro id)) | (show GO _ _ _ _ _ (⟨none, none, _⟩ :: _) _; refine go_st (hk := ?_)) | (show GO _ _ _ _ _ (⟨_, some _, _⟩ :: _) _; first | refine go_in (hk := ?_) | refine go_out (hk := ?_) | refine go_void (hk := ?_)) | (show GK _ _ _ _ (blockK _ _ _); refine gk_past rfl ?_) | (show GC _ _ _ _ _ (.cond _ _ _) _; first | refine gc_yes (h1 := ?_) | refine gc_no (h1 := ?_))))
      have hk1 := hk (p + 1, z) (by dsimp only; omega) (by dsimp only; omega)
      dsimp only at hk1
      rw [hskip p hp' (by omega) z] at hk1
      exact gk_next hk1 (hs := sub_drop (sub_refl _))
  · have : p = 2 ^ (xs.length - 1) := by omega
    subst this
    (repeat (first | refine gst (hk := ?_) | (show GO _ _ _ _ _ (⟨some _, none, .call _ _⟩ :: _) _; first | (refine go_callp rfl code_impl_firstPlaces.callable (fun H hH => firstPlaces_ok (by omega)) ?_)) | (show GO _ _ _ _ _ (⟨some _, none, _⟩ :: _) _; first | refine go_op (hk := ?_) | (refine go_nw (hk := ?_); intro u; try simp only [llc, lln, lna, lza]) | (refine go_np (hk := ?_); intro id)) | (show GO _ _ _ _ _ (⟨none, none, _⟩ :: _) _; refine go_st (hk := ?_)) | (show GO _ _ _ _ _ (⟨_, some _, _⟩ :: _) _; first | refine go_in (hk := ?_) | refine go_out (hk := ?_) | refine go_void (hk := ?_)) | (show GK _ _ _ _ (blockK _ _ _); refine gk_past rfl ?_) | (show GC _ _ _ _ _ (.cond _ _ _) _; first | refine gc_yes (h1 := ?_) | refine gc_no (h1 := ?_))))
    exact gk_retn rfl fun H' hH => ⟨z, hH⟩

theorem rows_nth {a : AV} {L : List (Nat × Nat)} {j : Nat} {q : Nat × Nat} (h : L[j]? = some q) : nthV (L.map fun q => wiV a q.1 q.2) j = wiV a q.1 q.2 := by
  have hi := (List.getElem?_eq_some_iff.1 h).1
  rw [show nthV (L.map fun q => wiV a q.1 q.2) j = (L.map fun q => wiV a q.1 q.2)[j]'(by rw [List.length_map]; exact hi) from nthA_of _]
  simp [(List.getElem?_eq_some_iff.1 h).2]

theorem smC_take {α : Type} {op : α → α → α} {z : α} {c : Nat → Nat → α} {L : List (Nat × Nat)} {j : Nat} {q : Nat × Nat} (h : L[j]? = some q) : smC op z c (L.take (j + 1)) = op (smC op z c (L.take j)) (c q.1 q.2) := by
  rw [List.take_add_one, h]
  exact smC_snoc

theorem addZ {c : Nat → Nat → Rat} (s k : Nat) (h : s < k) : 0 + c s k = c s k := Rat.zero_add _

def vlT (xs : List Int) (P : Nat) : Nat → List Rat
  | 0 => []
  | p + 1 => if (pcS xs.length p).length ≤ P then vlT xs P p ++ [smC (· + ·) 0 (pieR xs) (pcS xs.length p)] else vlT xs P p

theorem vlT_len (xs : List Int) (P : Nat) : ∀ p, (vlT xs P p).length ≤ p
  | 0 => Nat.le_refl _
  | p + 1 => by
    have ih := vlT_len xs P p
    rw [vlT]; split
    · simp; omega
    · omega

theorem vlT_mem {xs : List Int} {P : Nat} {w : Rat} : ∀ {p : Nat}, w ∈ vlT xs P p ↔ ∃ p', p' < p ∧ (pcS xs.length p').length ≤ P ∧ w = smC (· + ·) 0 (pieR xs) (pcS xs.length p')
  | 0 => by simp [vlT]
  | p + 1 => by
    have ih := vlT_mem (xs := xs) (P := P) (w := w) (p := p)
    rw [vlT]; split
    · rename_i hl
      rw [List.mem_append, List.mem_singleton, ih]
      constructor
      · rintro (⟨p', h1, h2⟩ | h)
        · exact ⟨p', by omega, h2⟩
        · exact ⟨p, by omega, hl, h⟩
      · rintro ⟨p', h1, h2, h3⟩
        rcases Nat.lt_or_ge p' p with h | h
        · exact .inl ⟨p', h, h2, h3⟩
        · obtain rfl : p' = p := by omega
          exact .inr h3
    · rename_i hl
      rw [ih]
      constructor
      · rintro ⟨p', h1, h2⟩; exact ⟨p', by omega, h2⟩
      · rintro ⟨p', h1, h2, h3⟩
        refine ⟨p', ?_, h2, h3⟩
        rcases Nat.lt_or_ge p' p with h | h
        · exact h
        · obtain rfl : p' = p := by omega
          exact absurd h2 hl

theorem vlT_fd {xs : List Int} {P p : Nat} (hS : Steps xs) (hp : p ≤ 2 ^ (xs.length - 1)) {w : Rat} (h : w ∈ vlT xs P p) : FD w 840 1000000000 ∧ ∃ q, q ≤ P ∧ Cuts (· + ·) (pieR xs) q 0 xs.length w := by
  obtain ⟨p', h1, h2, rfl⟩ := vlT_mem.1 h
  have hc := pcS_cuts (op := (· + ·)) (z := 0) (c := pieR xs) addZ hS.2.1 hS.2.2 (show p' < 2 ^ (xs.length - 1) by omega)
  exact ⟨hS.sq_fd _ _ _ hc (Nat.le_refl _), _, h2, hc⟩

theorem nthR_memL {L : List Rat} {i : Nat} (h : i < L.length) : nthR L i ∈ L := by
  rw [show nthR L i = L[i] by unfold nthR; simp [h]]
  exact List.getElem_mem h

theorem vlT_pos {xs : List Int} {P : Nat} (hS : Steps xs) (hP : 1 ≤ P) : 0 < (vlT xs P (2 ^ (xs.length - 1))).length := by
  obtain ⟨p, h1, h2, h3⟩ := cuts_pcS (op := (· + ·)) (z := (0 : Rat)) (c := pieR xs) addZ (.one (show 0 < xs.length by have := hS.2.1; omega)) hS.2.2
  exact List.length_pos_of_mem (vlT_mem.2 ⟨p, h1, by omega, rfl⟩)

theorem vlT_end {xs : List Int} {P : Nat} (hS : Steps xs) (hP : 1 ≤ P) : loR (nthR (vlT xs P (2 ^ (xs.length - 1)))) ((vlT xs P (2 ^ (xs.length - 1))).length - 1) = psR xs P := by
  have hpos := vlT_pos hS hP
  obtain ⟨h1, j, hj, he⟩ := loR_is (nthR (vlT xs P (2 ^ (xs.length - 1)))) ((vlT xs P (2 ^ (xs.length - 1))).length - 1)
  refine LeastC.uniq cstR ⟨?_, fun q w hq hw => ?_⟩ (ps_least hS hP)
  · rw [he]
    exact (vlT_fd hS (Nat.le_refl _) (nthR_memL (by omega))).2
  · obtain ⟨p, g1, g2, g3⟩ := cuts_pcS (op := (· + ·)) (z := (0 : Rat)) addZ hw hS.2.2
    have hm : w ∈ vlT xs P (2 ^ (xs.length - 1)) := vlT_mem.2 ⟨p, g1, by omega, g3.symm⟩
    obtain ⟨i, hi, e⟩ := List.mem_iff_getElem.1 hm
    have := h1 i (by omega)
    rw [show nthR (vlT xs P (2 ^ (xs.length - 1))) i = w by unfold nthR; simp [hi, e]] at this
    exact this

theorem fwL_self (L : List Rat) : fwL (nthR L) L.length = L := nthR_ext (fwL_len _ _) fun k hk => by
  rw [fwL_len] at hk; exact fwL_nth _ hk

theorem smS_fd {xs : List Int} (hS : Steps xs) {p j : Nat} (hp : p < 2 ^ (xs.length - 1)) (hj : j ≤ (pcS xs.length p).length) : FD (smC (· + ·) 0 (pieR xs) ((pcS xs.length p).take j)) 840 1000000000 := by
  have hn := hS.2.2
  have hlen := (bcS_le (p + 2 ^ (xs.length - 1)) xs.length).2
  rw [show (bcS (p + 2 ^ (xs.length - 1)) xs.length).2 = pcS xs.length p from rfl] at hlen
  have hmem := bcS_mem (p + 2 ^ (xs.length - 1)) xs.length
  rw [show (bcS (p + 2 ^ (xs.length - 1)) xs.length).2 = pcS xs.length p from rfl] at hmem
  generalize pcS xs.length p = L at *
  suffices h : ∀ j, j ≤ L.length → FD (smC (· + ·) 0 (pieR xs) (L.take j)) 840 (96768000 * (j : Int)) from (h j hj).mono (by omega)
  intro j
  induction j with
  | zero => intro _; exact fd_zero (by omega) (by omega)
  | succ j ih =>
    intro hj
    obtain ⟨q, hq⟩ : ∃ q, L[j]? = some q := ⟨L[j]'(by omega), List.getElem?_eq_getElem (by omega)⟩
    have hqm := hmem q (List.mem_of_getElem? hq)
    rw [smC_take hq]
    exact ((ih (by omega)).add (pie_fd2 hS.x hqm.1 (by omega))).mono (by omega)

theorem implPiecesTried_ok {H : Heap} {a : AV} {xs : List Int} {p : Int} (ha : Ints H a xs) (hl : xs.length ≤ 1000000000) :
    ACalls Try.prog fn_impl_PiecesTried [a, .int .i64 p] H fun r H' => r = .tuple [opV (PsOk xs p) (psR xs p.toNat), .bool (decide (PsOk xs p))] ∧ H' = H := by
  refine ACalls.val ?_ rfl
  refine code_impl_PiecesTried.go [.roI a xs.length xs] ⟨⟨rfl, ha⟩, trivial⟩ (by simp) ?_
  unfold mc_impl_PiecesTried
  have no : ¬ PsOk xs p → AV.tuple [fr0, .bool false] = AV.tuple [opV (PsOk xs p) (psR xs p.toNat), .bool (decide (PsOk xs p))] := fun h => by rw [opV_no h, decide_eq_false h]
  (repeat (first | refine gst (hk := ?_) | (with_reducible refine gc_drq ?_; intro _) | (show GO _ _ _ _ _ (⟨some _, none, _⟩ :: _) _; first | refine go_op (hk := ?_) | (refine go_nw (hk := ?_); intro u; try simp only [llc, lln, lna, lza]) | (refine go_np (hk := ?_); intro id)) | (show GQ _ _ _ _ _ _ _ (⟨some _, none, _⟩ :: _) _; first | refine gq_op (hk := ?_) | (refine gq_nw (hk := ?_); intro u; try simp only [llc, lln, lna, lza])) | (show GR _ _ _ _ _ _ (⟨some _, none, _⟩ :: _) _; refine gr_op (hk := ?_)) | (show GO _ _ _ _ _ (⟨none, none, _⟩ :: _) _; refine go_st (hk := ?_)) | (show GR _ _ _ _ _ _ (⟨none, none, _⟩ :: _) _; refine gr_st (hk := ?_)) | (show GO _ _ _ _ _ (⟨_, some _, _⟩ :: _) _; first | refine go_in (hk := ?_) | refine go_out (hk := ?_) | refine go_void (hk := ?_)) | (show GQ _ _ _ _ _ _ _ (⟨_, some _, _⟩ :: _) _; first | refine gq_in (hk := ?_) | refine gq_out (hk := ?_) | refine gq_void (hk := ?_)) | (show GK _ _ _ _ (blockK _ _ _); refine gk_past rfl ?_) | (show GC _ _ _ _ _ (.cond _ _ _) _; first | refine gc_yes (h1 := ?_) | refine gc_no (h1 := ?_))))
  refine go_callp rfl code_impl_validPieces.callable (fun H hH => validPieces_ok (hH.ints (by exact Has.auto)) hl) ?_
  (repeat (first | refine gst (hk := ?_) | (with_reducible refine gc_drq ?_; intro _) | (show GO _ _ _ _ _ (⟨some _, none, _⟩ :: _) _; first | refine go_op (hk := ?_) | (refine go_nw (hk := ?_); intro u; try simp only [llc, lln, lna, lza]) | (refine go_np (hk := ?_); intro id)) | (show GQ _ _ _ _ _ _ _ (⟨some _, none, _⟩ :: _) _; first | refine gq_op (hk := ?_) | (refine gq_nw (hk := ?_); intro u; try simp only [llc, lln, lna, lza])) | (show GR _ _ _ _ _ _ (⟨some _, none, _⟩ :: _) _; refine gr_op (hk := ?_)) | (show GO _ _ _ _ _ (⟨none, none, _⟩ :: _) _; refine go_st (hk := ?_)) | (show GR _ _ _ _ _ _ (⟨none, none, _⟩ :: _) _; refine gr_st (hk := ?_)) | (show GO _ _ _ _ _ (⟨_, some _, _⟩ :: _) _; first | refine go_in (hk := ?_) | refine go_out (hk := ?_) | refine go_void (hk := ?_)) | (show GQ _ _ _ _ _ _ _ (⟨_, some _, _⟩ :: _) _; first | refine gq_in (hk := ?_) | refine gq_out (hk := ?_) | refine gq_void (hk := ?_)) | (show GK _ _ _ _ (blockK _ _ _); refine gk_past rfl ?_) | (show GC _ _ _ _ _ (.cond _ _ _) _; first | refine gc_yes (h1 := ?_) | refine gc_no (h1 := ?_))))
  refine gc_cond rfl (fun h1 => ?_) (fun h1 => ?_)
  · (repeat (first | refine gst (hk := ?_) | (with_reducible refine gc_drq ?_; intro _) | (show GO _ _ _ _ _ (⟨some _, none, _⟩ :: _) _; first | refine go_op (hk := ?_) | (refine go_nw (hk := ?_); intro u; try simp only [llc, lln, lna, lza]) | (refine go_np (hk := ?_); intro id)) | (show GQ _ _ _ _ _ _ _ (⟨some _, none, _⟩ :: _) _; first | refine gq_op (hk := ?_) | (refine gq_nw (hk := ?_); intro u; try simp only [llc, lln, lna, lza])) | (show GR _ _ _ _ _ _ (⟨some _, none, _⟩ :: _) _; refine gr_op (hk := ?_)) | (show GO _ _ _ _ _ (⟨none, none, _⟩ :: _) _; refine go_st (hk := ?_)) | (show GR _ _ _ _ _ _ (⟨none, none, _⟩ :: _) _; refine gr_st (hk := ?_)) | (show GO _ _ _ _ _ (⟨_, some _, _⟩ :: _) _; first | refine go_in (hk := ?_) | refine go_out (hk := ?_) | refine go_void (hk := ?_)) | (show GQ _ _ _ _ _ _ _ (⟨_, some _, _⟩ :: _) _; first | refine gq_in (hk := ?_) | refine gq_out (hk := ?_) | refine gq_void (hk := ?_)) | (show GK _ _ _ _ (blockK _ _ _); refine gk_past rfl ?_) | (show GC _ _ _ _ _ (.cond _ _ _) _; first | refine gc_yes (h1 := ?_) | refine gc_no (h1 := ?_))))
    exact gk_rets (rvs_c rfl (by exact Sel.auto) rfl rfl (rvs_t rfl rvs_nil)) fun H' hH => ⟨no h1, hH.leE⟩
  have hP := Decidable.not_not.1 h1
  have hS := hP.1
  have hn := hS.2.2
  have hn1 := hS.2.1
  obtain ⟨P, rfl⟩ : ∃ p' : Nat, p = (p' : Int) := ⟨p.toNat, by have := hP.2; omega⟩
  have hp1 : 1 ≤ P := by have := hP.2; omega
  rw [opV_yes hP, decide_eq_true hP]
  simp only [Int.toNat_natCast]
  rw [← vlT_end hS hp1]
  have h128 : 2 ^ (xs.length - 1) ≤ 2 ^ 7 := Nat.pow_le_pow_right (by omega) (by omega)
  (repeat (first | refine gst (hk := ?_) | (with_reducible refine gc_drq ?_; intro _) | (show GO _ _ _ _ _ (⟨some _, none, _⟩ :: _) _; first | refine go_op (hk := ?_) | (refine go_nw (hk := ?_); intro u; try simp only [llc, lln, lna, lza]) | (refine go_np (hk := ?_); intro id)) | (show GQ _ _ _ _ _ _ _ (⟨some _, none, _⟩ :: _) _; first | refine gq_op (hk := ?_) | (refine gq_nw (hk := ?_); intro u; try simp only [llc, lln, lna, lza])) | (show GR _ _ _ _ _ _ (⟨some _, none, _⟩ :: _) _; refine gr_op (hk := ?_)) | (show GO _ _ _ _ _ (⟨none, none, _⟩ :: _) _; refine go_st (hk := ?_)) | (show GR _ _ _ _ _ _ (⟨none, none, _⟩ :: _) _; refine gr_st (hk := ?_)) | (show GO _ _ _ _ _ (⟨_, some _, _⟩ :: _) _; first | refine go_in (hk := ?_) | refine go_out (hk := ?_) | refine go_void (hk := ?_)) | (show GQ _ _ _ _ _ _ _ (⟨_, some _, _⟩ :: _) _; first | refine gq_in (hk := ?_) | refine gq_out (hk := ?_) | refine gq_void (hk := ?_)) | (show GK _ _ _ _ (blockK _ _ _); refine gk_past rfl ?_) | (show GC _ _ _ _ _ (.cond _ _ _) _; first | refine gc_yes (h1 := ?_) | refine gc_no (h1 := ?_))))
  rename_i i4
  revert id; intro i6
  refine go_nilK 2 ?_
  refine go_callg (γ := Nat × Nat) (V := fun g => .func fn_impl_allCuts_1 [.ptr g.1 0, .ptr g.2 0]) (T := fun g => acS g.1 g.2 a xs P ++ [bx1 i6 .nilSlice, rwF .nilSlice 0 [], cel0 i4]) (Φ := fun _ => True) rfl code_impl_allCuts.callable (fun H hH => (allCuts_ok (P := (P : Int)) hH (hH.ints (by exact Has.auto))).mono fun r H' ⟨g, h1, h2, h3⟩ => ⟨g, h1, h2.sub (by exact Sub.auto), h3⟩) ?_
  rintro ⟨i1, i2⟩ _
  dsimp only
  (repeat (first | refine gst (hk := ?_) | (with_reducible refine gc_drq ?_; intro _) | (show GO _ _ _ _ _ (⟨some _, none, _⟩ :: _) _; first | refine go_op (hk := ?_) | (refine go_nw (hk := ?_); intro u; try simp only [llc, lln, lna, lza]) | (refine go_np (hk := ?_); intro id)) | (show GQ _ _ _ _ _ _ _ (⟨some _, none, _⟩ :: _) _; first | refine gq_op (hk := ?_) | (refine gq_nw (hk := ?_); intro u; try simp only [llc, lln, lna, lza])) | (show GR _ _ _ _ _ _ (⟨some _, none, _⟩ :: _) _; refine gr_op (hk := ?_)) | (show GO _ _ _ _ _ (⟨none, none, _⟩ :: _) _; refine go_st (hk := ?_)) | (show GR _ _ _ _ _ _ (⟨none, none, _⟩ :: _) _; refine gr_st (hk := ?_)) | (show GO _ _ _ _ _ (⟨_, some _, _⟩ :: _) _; first | refine go_in (hk := ?_) | refine go_out (hk := ?_) | refine go_void (hk := ?_)) | (show GQ _ _ _ _ _ _ _ (⟨_, some _, _⟩ :: _) _; first | refine gq_in (hk := ?_) | refine gq_out (hk := ?_) | refine gq_void (hk := ?_)) | (show GK _ _ _ _ (blockK _ _ _); refine gk_past rfl ?_) | (show GC _ _ _ _ _ (.cond _ _ _) _; first | refine gc_yes (h1 := ?_) | refine gc_no (h1 := ?_))))
  refine gc_rfuncE (ι := Nat × Option AV) (γ := AV) (f := fn_impl_allCuts_1) (caps := [.ptr i1 0, .ptr i2 0]) (fun t u => (match t.2 with | some v => [rowsC v a (pcS xs.length t.1)] | none => []) ++ (acS i1 i2 a xs P ++ [bx1 i6 u, rwF u (vlT xs P t.1).length (vlT xs P t.1), cel0 i4])) (fun s t vs => ∃ p v, s = (p, some v) ∧ t = (p + 1, none) ∧ p < 2 ^ (xs.length - 1) ∧ (pcS xs.length p).length ≤ P ∧ vs = [v]) (0, none) (2 ^ (xs.length - 1), none) .nilSlice rfl code_impl_allCuts_1.callable (sub_refl _) ?_ ?_ ?_
  · intro A' yd H hy hS0
    exact allCuts1_ok hn1 hn (fun p u => [bx1 i6 u, rwF u (vlT xs P p).length (vlT xs P p), cel0 i4]) (fun p hp hlt z => by rw [vlT, if_neg (by omega)]) (fun p hp hle v z H' hH' => by
      have := hy (p, some v) (p + 1, none) [v] ⟨p, v, rfl, rfl, hp, hle, rfl⟩ [] z H' (by rw [List.append_nil]; exact hH')
      simpa using this) .nilSlice hS0
  · rintro s t vs ⟨p, v, rfl, rfl, hp, hle, rfl⟩
    refine ⟨rfl, fun F u0 ob1 ob2 Q1 Q2 g1 g2 => ?_⟩
    have hmem := bcS_mem (p + 2 ^ (xs.length - 1)) xs.length
    have hlen := (bcS_le (p + 2 ^ (xs.length - 1)) xs.length).2
    rw [show (bcS (p + 2 ^ (xs.length - 1)) xs.length).2 = pcS xs.length p from rfl] at hmem hlen
    have hvl := vlT_len xs P p
    have hsf := fun {j : Nat} (hj : j ≤ (pcS xs.length p).length) => smS_fd hS hp hj
    simp only [List.cons_append, List.nil_append] at g2 ⊢
    rw [vlT, if_pos hle] at g2
    generalize vlT xs P p = V at *
    generalize pcS xs.length p = L at *
    (repeat (first | refine gst (hk := ?_) | (with_reducible refine gc_drq ?_; intro _) | (show GO _ _ _ _ _ (⟨some _, none, _⟩ :: _) _; first | refine go_op (hk := ?_) | (refine go_nw (hk := ?_); intro u; try simp only [llc, lln, lna, lza]) | (refine go_np (hk := ?_); intro id)) | (show GQ _ _ _ _ _ _ _ (⟨some _, none, _⟩ :: _) _; first | refine gq_op (hk := ?_) | (refine gq_nw (hk := ?_); intro u; try simp only [llc, lln, lna, lza])) | (show GR _ _ _ _ _ _ (⟨some _, none, _⟩ :: _) _; refine gr_op (hk := ?_)) | (show GO _ _ _ _ _ (⟨none, none, _⟩ :: _) _; refine go_st (hk := ?_)) | (show GR _ _ _ _ _ _ (⟨none, none, _⟩ :: _) _; refine gr_st (hk := ?_)) | (show GO _ _ _ _ _ (⟨_, some _, _⟩ :: _) _; first | refine go_in (hk := ?_) | refine go_out (hk := ?_) | refine go_void (hk := ?_)) | (show GQ _ _ _ _ _ _ _ (⟨_, some _, _⟩ :: _) _; first | refine gq_in (hk := ?_) | refine gq_out (hk := ?_) | refine gq_void (hk := ?_)) | (show GK _ _ _ _ (blockK _ _ _); refine gk_past rfl ?_) | (show GC _ _ _ _ _ (.cond _ _ _) _; first | refine gc_yes (h1 := ?_) | refine gc_no (h1 := ?_))))
    refine g1 _ _ ?_
    (repeat (first | refine gst (hk := ?_) | (with_reducible refine gc_drq ?_; intro _) | (show GO _ _ _ _ _ (⟨some _, none, _⟩ :: _) _; first | refine go_op (hk := ?_) | (refine go_nw (hk := ?_); intro u; try simp only [llc, lln, lna, lza]) | (refine go_np (hk := ?_); intro id)) | (show GQ _ _ _ _ _ _ _ (⟨some _, none, _⟩ :: _) _; first | refine gq_op (hk := ?_) | (refine gq_nw (hk := ?_); intro u; try simp only [llc, lln, lna, lza])) | (show GR _ _ _ _ _ _ (⟨some _, none, _⟩ :: _) _; refine gr_op (hk := ?_)) | (show GO _ _ _ _ _ (⟨none, none, _⟩ :: _) _; refine go_st (hk := ?_)) | (show GR _ _ _ _ _ _ (⟨none, none, _⟩ :: _) _; refine gr_st (hk := ?_)) | (show GO _ _ _ _ _ (⟨_, some _, _⟩ :: _) _; first | refine go_in (hk := ?_) | refine go_out (hk := ?_) | refine go_void (hk := ?_)) | (show GQ _ _ _ _ _ _ _ (⟨_, some _, _⟩ :: _) _; first | refine gq_in (hk := ?_) | refine gq_out (hk := ?_) | refine gq_void (hk := ?_)) | (show GK _ _ _ _ (blockK _ _ _); refine gk_past rfl ?_) | (show GC _ _ _ _ _ (.cond _ _ _) _; first | refine gc_yes (h1 := ?_) | refine gc_no (h1 := ?_))))
    refine go_callp rfl code_impl_whole.callable (fun H hH => implWhole_ok (n := 0)) ?_
    (repeat (first | refine gst (hk := ?_) | (with_reducible refine gc_drq ?_; intro _) | (show GO _ _ _ _ _ (⟨some _, none, _⟩ :: _) _; first | refine go_op (hk := ?_) | (refine go_nw (hk := ?_); intro u; try simp only [llc, lln, lna, lza]) | (refine go_np (hk := ?_); intro id)) | (show GQ _ _ _ _ _ _ _ (⟨some _, none, _⟩ :: _) _; first | refine gq_op (hk := ?_) | (refine gq_nw (hk := ?_); intro u; try simp only [llc, lln, lna, lza])) | (show GR _ _ _ _ _ _ (⟨some _, none, _⟩ :: _) _; refine gr_op (hk := ?_)) | (show GO _ _ _ _ _ (⟨none, none, _⟩ :: _) _; refine go_st (hk := ?_)) | (show GR _ _ _ _ _ _ (⟨none, none, _⟩ :: _) _; refine gr_st (hk := ?_)) | (show GO _ _ _ _ _ (⟨_, some _, _⟩ :: _) _; first | refine go_in (hk := ?_) | refine go_out (hk := ?_) | refine go_void (hk := ?_)) | (show GQ _ _ _ _ _ _ _ (⟨_, some _, _⟩ :: _) _; first | refine gq_in (hk := ?_) | refine gq_out (hk := ?_) | refine gq_void (hk := ?_)) | (show GK _ _ _ _ (blockK _ _ _); refine gk_past rfl ?_) | (show GC _ _ _ _ _ (.cond _ _ _) _; first | refine gc_yes (h1 := ?_) | refine gc_no (h1 := ?_))))
    revert id; intro i8
    refine gc_up L.length (fun j => [(4, .ptr i4 0), (6, .ptr i6 0), (8, .ptr i8 0), (21, v), (22, .int .i64 (L.length : Int)), (23, .int .i64 (j : Int))]) (fun j => celF i8 (smC (· + ·) 0 (pieR xs) (L.take j)) :: rowsC v a L :: cel i1 a :: cel i2 (.int .i64 (P : Int)) :: .roI a xs.length xs :: bx1 i6 u0 :: rwF u0 V.length V :: cel0 i4 :: F) (hS := sub_refl _) (hb := ?_)
    intro j hj I ν m hk
    (repeat (first | refine gst (hk := ?_) | (with_reducible refine gc_drq ?_; intro _) | (show GO _ _ _ _ _ (⟨some _, none, _⟩ :: _) _; first | refine go_op (hk := ?_) | (refine go_nw (hk := ?_); intro u; try simp only [llc, lln, lna, lza]) | (refine go_np (hk := ?_); intro id)) | (show GQ _ _ _ _ _ _ _ (⟨some _, none, _⟩ :: _) _; first | refine gq_op (hk := ?_) | (refine gq_nw (hk := ?_); intro u; try simp only [llc, lln, lna, lza])) | (show GR _ _ _ _ _ _ (⟨some _, none, _⟩ :: _) _; refine gr_op (hk := ?_)) | (show GO _ _ _ _ _ (⟨none, none, _⟩ :: _) _; refine go_st (hk := ?_)) | (show GR _ _ _ _ _ _ (⟨none, none, _⟩ :: _) _; refine gr_st (hk := ?_)) | (show GO _ _ _ _ _ (⟨_, some _, _⟩ :: _) _; first | refine go_in (hk := ?_) | refine go_out (hk := ?_) | refine go_void (hk := ?_)) | (show GQ _ _ _ _ _ _ _ (⟨_, some _, _⟩ :: _) _; first | refine gq_in (hk := ?_) | refine gq_out (hk := ?_) | refine gq_void (hk := ?_)) | (show GK _ _ _ _ (blockK _ _ _); refine gk_past rfl ?_) | (show GC _ _ _ _ _ (.cond _ _ _) _; first | refine gc_yes (h1 := ?_) | refine gc_no (h1 := ?_))))
    refine gc_cond rfl (fun h => ?_) (fun h => ?_)
    · have hk := hk (by omega)
      obtain ⟨q, hq⟩ : ∃ q, L[j]? = some q := ⟨L[j]'(by omega), List.getElem?_eq_getElem (by omega)⟩
      have hqm := hmem q (List.mem_of_getElem? hq)
      have f1 := hsf (j := j) (by omega)
      have f2 := hS.sq_fc q.1 q.2 hqm.1 hqm.2
      rw [smC_take hq] at hk
      generalize smC (· + ·) 0 (pieR xs) (L.take j) = w at *
      (repeat (first | refine gst (hk := ?_) | (with_reducible refine gc_drq ?_; intro _) | (show GO _ _ _ _ _ (⟨some _, none, _⟩ :: _) _; first | refine go_op (hk := ?_) | (refine go_nw (hk := ?_); intro u; try simp only [llc, lln, lna, lza]) | (refine go_np (hk := ?_); intro id)) | (show GQ _ _ _ _ _ _ _ (⟨some _, none, _⟩ :: _) _; first | refine gq_op (hk := ?_) | (refine gq_nw (hk := ?_); intro u; try simp only [llc, lln, lna, lza])) | (show GR _ _ _ _ _ _ (⟨some _, none, _⟩ :: _) _; refine gr_op (hk := ?_)) | (show GO _ _ _ _ _ (⟨none, none, _⟩ :: _) _; refine go_st (hk := ?_)) | (show GR _ _ _ _ _ _ (⟨none, none, _⟩ :: _) _; refine gr_st (hk := ?_)) | (show GO _ _ _ _ _ (⟨_, some _, _⟩ :: _) _; first | refine go_in (hk := ?_) | refine go_out (hk := ?_) | refine go_void (hk := ?_)) | (show GQ _ _ _ _ _ _ _ (⟨_, some _, _⟩ :: _) _; first | refine gq_in (hk := ?_) | refine gq_out (hk := ?_) | refine gq_void (hk := ?_)) | (show GK _ _ _ _ (blockK _ _ _); refine gk_past rfl ?_) | (show GC _ _ _ _ _ (.cond _ _ _) _; first | refine gc_yes (h1 := ?_) | refine gc_no (h1 := ?_))))
      refine go_is rfl (stp_ldV (i := j) rfl (by exact Has.auto) (by simp) (by simp; omega)) ?_
      rw [rows_nth hq]
      (repeat (first | refine gst (hk := ?_) | (with_reducible refine gc_drq ?_; intro _) | (show GO _ _ _ _ _ (⟨some _, none, _⟩ :: _) _; first | refine go_op (hk := ?_) | (refine go_nw (hk := ?_); intro u; try simp only [llc, lln, lna, lza]) | (refine go_np (hk := ?_); intro id)) | (show GQ _ _ _ _ _ _ _ (⟨some _, none, _⟩ :: _) _; first | refine gq_op (hk := ?_) | (refine gq_nw (hk := ?_); intro u; try simp only [llc, lln, lna, lza])) | (show GR _ _ _ _ _ _ (⟨some _, none, _⟩ :: _) _; refine gr_op (hk := ?_)) | (show GO _ _ _ _ _ (⟨none, none, _⟩ :: _) _; refine go_st (hk := ?_)) | (show GR _ _ _ _ _ _ (⟨none, none, _⟩ :: _) _; refine gr_st (hk := ?_)) | (show GO _ _ _ _ _ (⟨_, some _, _⟩ :: _) _; first | refine go_in (hk := ?_) | refine go_out (hk := ?_) | refine go_void (hk := ?_)) | (show GQ _ _ _ _ _ _ _ (⟨_, some _, _⟩ :: _) _; first | refine gq_in (hk := ?_) | refine gq_out (hk := ?_) | refine gq_void (hk := ?_)) | (show GK _ _ _ _ (blockK _ _ _); refine gk_past rfl ?_) | (show GC _ _ _ _ _ (.cond _ _ _) _; first | refine gc_yes (h1 := ?_) | refine gc_no (h1 := ?_))))
      refine gc_drcs (fun H => qtTab [(fn_impl_missedSquares, dOne [wiV a q.1 q.2] (frV (pieR xs q.1 q.2))), (fn_impl_Frac_plus, dPlusI)]) (fun H hH => ?_) (fun H0 h0 => ?_)
      · refine qtTab_cons (dOne_ok code_impl_missedSquares.callable ?_) (qtTab_cons (dPlusI_ok H) qtTab_nil)
        have hwl := win_len2 (xs := xs) (i := q.1) hqm.2
        refine (missedSquares_ok (ints_wi (hH.ints (v := a) (n := xs.length) (xs := xs) (by exact Has.auto)) (l := q.1) (h := q.2) (by omega)) (hS.win q.1 q.2) (by omega) (by omega)).mono ?_
        rintro r H' ⟨rfl, rfl⟩
        exact ⟨by rw [pie_win hqm.2], rfl⟩
      (repeat (first | refine gst (hk := ?_) | (with_reducible refine gc_drq ?_; intro _) | (show GO _ _ _ _ _ (⟨some _, none, _⟩ :: _) _; first | refine go_op (hk := ?_) | (refine go_nw (hk := ?_); intro u; try simp only [llc, lln, lna, lza]) | (refine go_np (hk := ?_); intro id)) | (show GQ _ _ _ _ _ _ _ (⟨some _, none, _⟩ :: _) _; first | refine gq_op (hk := ?_) | (refine gq_nw (hk := ?_); intro u; try simp only [llc, lln, lna, lza])) | (show GR _ _ _ _ _ _ (⟨some _, none, _⟩ :: _) _; refine gr_op (hk := ?_)) | (show GO _ _ _ _ _ (⟨none, none, _⟩ :: _) _; refine go_st (hk := ?_)) | (show GR _ _ _ _ _ _ (⟨none, none, _⟩ :: _) _; refine gr_st (hk := ?_)) | (show GO _ _ _ _ _ (⟨_, some _, _⟩ :: _) _; first | refine go_in (hk := ?_) | refine go_out (hk := ?_) | refine go_void (hk := ?_)) | (show GQ _ _ _ _ _ _ _ (⟨_, some _, _⟩ :: _) _; first | refine gq_in (hk := ?_) | refine gq_out (hk := ?_) | refine gq_void (hk := ?_)) | (show GK _ _ _ _ (blockK _ _ _); refine gk_past rfl ?_) | (show GC _ _ _ _ _ (.cond _ _ _) _; first | refine gc_yes (h1 := ?_) | refine gc_no (h1 := ?_))))
      refine gr_call rfl dOne_is ?_
      refine gr_call rfl (fam2_is (fit9 (f1.mono (by omega)) (f2.mono (by omega)))) ?_
      (repeat (first | refine gst (hk := ?_) | (with_reducible refine gc_drq ?_; intro _) | (show GO _ _ _ _ _ (⟨some _, none, _⟩ :: _) _; first | refine go_op (hk := ?_) | (refine go_nw (hk := ?_); intro u; try simp only [llc, lln, lna, lza]) | (refine go_np (hk := ?_); intro id)) | (show GQ _ _ _ _ _ _ _ (⟨some _, none, _⟩ :: _) _; first | refine gq_op (hk := ?_) | (refine gq_nw (hk := ?_); intro u; try simp only [llc, lln, lna, lza])) | (show GR _ _ _ _ _ _ (⟨some _, none, _⟩ :: _) _; refine gr_op (hk := ?_)) | (show GO _ _ _ _ _ (⟨none, none, _⟩ :: _) _; refine go_st (hk := ?_)) | (show GR _ _ _ _ _ _ (⟨none, none, _⟩ :: _) _; refine gr_st (hk := ?_)) | (show GO _ _ _ _ _ (⟨_, some _, _⟩ :: _) _; first | refine go_in (hk := ?_) | refine go_out (hk := ?_) | refine go_void (hk := ?_)) | (show GQ _ _ _ _ _ _ _ (⟨_, some _, _⟩ :: _) _; first | refine gq_in (hk := ?_) | refine gq_out (hk := ?_) | refine gq_void (hk := ?_)) | (show GK _ _ _ _ (blockK _ _ _); refine gk_past rfl ?_) | (show GC _ _ _ _ _ (.cond _ _ _) _; first | refine gc_yes (h1 := ?_) | refine gc_no (h1 := ?_))))
      exact gk_next hk (hs := sub_refl _)
    · obtain rfl : j = L.length := by omega
      rw [List.take_length]
      generalize smC (· + ·) 0 (pieR xs) L = w at *
      (repeat (first | refine gst (hk := ?_) | (with_reducible refine gc_drq ?_; intro _) | (show GO _ _ _ _ _ (⟨some _, none, _⟩ :: _) _; first | refine go_op (hk := ?_) | (refine go_nw (hk := ?_); intro u; try simp only [llc, lln, lna, lza]) | (refine go_np (hk := ?_); intro id)) | (show GQ _ _ _ _ _ _ _ (⟨some _, none, _⟩ :: _) _; first | refine gq_op (hk := ?_) | (refine gq_nw (hk := ?_); intro u; try simp only [llc, lln, lna, lza])) | (show GR _ _ _ _ _ _ (⟨some _, none, _⟩ :: _) _; refine gr_op (hk := ?_)) | (show GO _ _ _ _ _ (⟨none, none, _⟩ :: _) _; refine go_st (hk := ?_)) | (show GR _ _ _ _ _ _ (⟨none, none, _⟩ :: _) _; refine gr_st (hk := ?_)) | (show GO _ _ _ _ _ (⟨_, some _, _⟩ :: _) _; first | refine go_in (hk := ?_) | refine go_out (hk := ?_) | refine go_void (hk := ?_)) | (show GQ _ _ _ _ _ _ _ (⟨_, some _, _⟩ :: _) _; first | refine gq_in (hk := ?_) | refine gq_out (hk := ?_) | refine gq_void (hk := ?_)) | (show GK _ _ _ _ (blockK _ _ _); refine gk_past rfl ?_) | (show GC _ _ _ _ _ (.cond _ _ _) _; first | refine gc_yes (h1 := ?_) | refine gc_no (h1 := ?_))))
      refine go_new rfl (stp_appF (L := V) (M := [w]) (m' := 1) rfl rfl (by exact Sel.auto) (by exact Has.rw) (by omega)) ?_
      intro u2
      rw [show V.length + 1 = (V ++ [w]).length by simp]
      refine go_is0 rfl (stp_stv rfl rfl (by exact Has.auto) (by exact Sel.auto)) ?_
      (repeat (first | refine gst (hk := ?_) | (with_reducible refine gc_drq ?_; intro _) | (show GO _ _ _ _ _ (⟨some _, none, _⟩ :: _) _; first | refine go_op (hk := ?_) | (refine go_nw (hk := ?_); intro u; try simp only [llc, lln, lna, lza]) | (refine go_np (hk := ?_); intro id)) | (show GQ _ _ _ _ _ _ _ (⟨some _, none, _⟩ :: _) _; first | refine gq_op (hk := ?_) | (refine gq_nw (hk := ?_); intro u; try simp only [llc, lln, lna, lza])) | (show GR _ _ _ _ _ _ (⟨some _, none, _⟩ :: _) _; refine gr_op (hk := ?_)) | (show GO _ _ _ _ _ (⟨none, none, _⟩ :: _) _; refine go_st (hk := ?_)) | (show GR _ _ _ _ _ _ (⟨none, none, _⟩ :: _) _; refine gr_st (hk := ?_)) | (show GO _ _ _ _ _ (⟨_, some _, _⟩ :: _) _; first | refine go_in (hk := ?_) | refine go_out (hk := ?_) | refine go_void (hk := ?_)) | (show GQ _ _ _ _ _ _ _ (⟨_, some _, _⟩ :: _) _; first | refine gq_in (hk := ?_) | refine gq_out (hk := ?_) | refine gq_void (hk := ?_)) | (show GK _ _ _ _ (blockK _ _ _); refine gk_past rfl ?_) | (show GC _ _ _ _ _ (.cond _ _ _) _; first | refine gc_yes (h1 := ?_) | refine gc_no (h1 := ?_))))
      exact gk_next (F := []) (g2 [] u2) (hs := by (repeat (refine Sub.cons (by exact Sel.auto) ?_)); exact sub_drop (sub_drop (sub_drop (sub_refl _))))
  · intro u
    have hpos := vlT_pos hS hp1
    have hvl := vlT_len xs P (2 ^ (xs.length - 1))
    have hfd := fun {i : Nat} (hi : i < (vlT xs P (2 ^ (xs.length - 1))).length) => (vlT_fd hS (Nat.le_refl _) (nthR_memL hi)).1
    simp only [acS, List.cons_append, List.nil_append]
    generalize vlT xs P (2 ^ (xs.length - 1)) = V at *
    (repeat (first | refine gst (hk := ?_) | (with_reducible refine gc_drq ?_; intro _) | (show GO _ _ _ _ _ (⟨some _, none, _⟩ :: _) _; first | refine go_op (hk := ?_) | (refine go_nw (hk := ?_); intro u; try simp only [llc, lln, lna, lza]) | (refine go_np (hk := ?_); intro id)) | (show GQ _ _ _ _ _ _ _ (⟨some _, none, _⟩ :: _) _; first | refine gq_op (hk := ?_) | (refine gq_nw (hk := ?_); intro u; try simp only [llc, lln, lna, lza])) | (show GR _ _ _ _ _ _ (⟨some _, none, _⟩ :: _) _; refine gr_op (hk := ?_)) | (show GO _ _ _ _ _ (⟨none, none, _⟩ :: _) _; refine go_st (hk := ?_)) | (show GR _ _ _ _ _ _ (⟨none, none, _⟩ :: _) _; refine gr_st (hk := ?_)) | (show GO _ _ _ _ _ (⟨_, some _, _⟩ :: _) _; first | refine go_in (hk := ?_) | refine go_out (hk := ?_) | refine go_void (hk := ?_)) | (show GQ _ _ _ _ _ _ _ (⟨_, some _, _⟩ :: _) _; first | refine gq_in (hk := ?_) | refine gq_out (hk := ?_) | refine gq_void (hk := ?_)) | (show GK _ _ _ _ (blockK _ _ _); refine gk_past rfl ?_) | (show GC _ _ _ _ _ (.cond _ _ _) _; first | refine gc_yes (h1 := ?_) | refine gc_no (h1 := ?_))))
    refine gc_drcs (fun H => qtTab [(fn_impl_least_impl_Frac, dOne [frV (nthR V 0), subW u 1 V.length] (frV (loR (nthR V) (V.length - 1))))]) (fun H hH => ?_) (fun H0 h0 => ?_)
    · exact qtTab_cons (least_call (f := nthR V) (by rw [fwL_self]; exact hH.valsA (v := u) (es := 2) (n := V.length) (cs := frs V) (by exact Has.auto)) hpos (by omega) fun i j hi hj => fit9 ((hfd hi).mono (by omega)) ((hfd hj).mono (by omega))) qtTab_nil
    (repeat (first | refine gst (hk := ?_) | (with_reducible refine gc_drq ?_; intro _) | (show GO _ _ _ _ _ (⟨some _, none, _⟩ :: _) _; first | refine go_op (hk := ?_) | (refine go_nw (hk := ?_); intro u; try simp only [llc, lln, lna, lza]) | (refine go_np (hk := ?_); intro id)) | (show GQ _ _ _ _ _ _ _ (⟨some _, none, _⟩ :: _) _; first | refine gq_op (hk := ?_) | (refine gq_nw (hk := ?_); intro u; try simp only [llc, lln, lna, lza])) | (show GR _ _ _ _ _ _ (⟨some _, none, _⟩ :: _) _; refine gr_op (hk := ?_)) | (show GO _ _ _ _ _ (⟨none, none, _⟩ :: _) _; refine go_st (hk := ?_)) | (show GR _ _ _ _ _ _ (⟨none, none, _⟩ :: _) _; refine gr_st (hk := ?_)) | (show GO _ _ _ _ _ (⟨_, some _, _⟩ :: _) _; first | refine go_in (hk := ?_) | refine go_out (hk := ?_) | refine go_void (hk := ?_)) | (show GQ _ _ _ _ _ _ _ (⟨_, some _, _⟩ :: _) _; first | refine gq_in (hk := ?_) | refine gq_out (hk := ?_) | refine gq_void (hk := ?_)) | (show GK _ _ _ _ (blockK _ _ _); refine gk_past rfl ?_) | (show GC _ _ _ _ _ (.cond _ _ _) _; first | refine gc_yes (h1 := ?_) | refine gc_no (h1 := ?_))))
    refine gr_is rfl (stp_ldF (i := 0) rfl (by exact Has.auto) rfl hpos) ?_
    (repeat (first | refine gst (hk := ?_) | (with_reducible refine gc_drq ?_; intro _) | (show GO _ _ _ _ _ (⟨some _, none, _⟩ :: _) _; first | refine go_op (hk := ?_) | (refine go_nw (hk := ?_); intro u; try simp only [llc, lln, lna, lza]) | (refine go_np (hk := ?_); intro id)) | (show GQ _ _ _ _ _ _ _ (⟨some _, none, _⟩ :: _) _; first | refine gq_op (hk := ?_) | (refine gq_nw (hk := ?_); intro u; try simp only [llc, lln, lna, lza])) | (show GR _ _ _ _ _ _ (⟨some _, none, _⟩ :: _) _; refine gr_op (hk := ?_)) | (show GO _ _ _ _ _ (⟨none, none, _⟩ :: _) _; refine go_st (hk := ?_)) | (show GR _ _ _ _ _ _ (⟨none, none, _⟩ :: _) _; refine gr_st (hk := ?_)) | (show GO _ _ _ _ _ (⟨_, some _, _⟩ :: _) _; first | refine go_in (hk := ?_) | refine go_out (hk := ?_) | refine go_void (hk := ?_)) | (show GQ _ _ _ _ _ _ _ (⟨_, some _, _⟩ :: _) _; first | refine gq_in (hk := ?_) | refine gq_out (hk := ?_) | refine gq_void (hk := ?_)) | (show GK _ _ _ _ (blockK _ _ _); refine gk_past rfl ?_) | (show GC _ _ _ _ _ (.cond _ _ _) _; first | refine gc_yes (h1 := ?_) | refine gc_no (h1 := ?_))))
    refine gr_is rfl (stp_slw (l := 1) rfl rfl (by exact Sel.auto) (by omega)) ?_
    refine gr_call rfl dOne_is ?_
    (repeat (first | refine gst (hk := ?_) | (with_reducible refine gc_drq ?_; intro _) | (show GO _ _ _ _ _ (⟨some _, none, _⟩ :: _) _; first | refine go_op (hk := ?_) | (refine go_nw (hk := ?_); intro u; try simp only [llc, lln, lna, lza]) | (refine go_np (hk := ?_); intro id)) | (show GQ _ _ _ _ _ _ _ (⟨some _, none, _⟩ :: _) _; first | refine gq_op (hk := ?_) | (refine gq_nw (hk := ?_); intro u; try simp only [llc, lln, lna, lza])) | (show GR _ _ _ _ _ _ (⟨some _, none, _⟩ :: _) _; refine gr_op (hk := ?_)) | (show GO _ _ _ _ _ (⟨none, none, _⟩ :: _) _; refine go_st (hk := ?_)) | (show GR _ _ _ _ _ _ (⟨none, none, _⟩ :: _) _; refine gr_st (hk := ?_)) | (show GO _ _ _ _ _ (⟨_, some _, _⟩ :: _) _; first | refine go_in (hk := ?_) | refine go_out (hk := ?_) | refine go_void (hk := ?_)) | (show GQ _ _ _ _ _ _ _ (⟨_, some _, _⟩ :: _) _; first | refine gq_in (hk := ?_) | refine gq_out (hk := ?_) | refine gq_void (hk := ?_)) | (show GK _ _ _ _ (blockK _ _ _); refine gk_past rfl ?_) | (show GC _ _ _ _ _ (.cond _ _ _) _; first | refine gc_yes (h1 := ?_) | refine gc_no (h1 := ?_))))
    exact gk_rets (rvs_c rfl (by exact Sel.auto) rfl rfl (rvs_t rfl rvs_nil)) fun H' hH => ⟨rfl, hH.leE⟩

theorem lawFnExactPiecesTried_ok {H : Heap} {a : AV} {xs : List Int} {p : Int} (ha : Ints H a xs) (_ : (Lit.int .i64 p).wf = true) : ACalls Try.prog fn_laws_FnExactPiecesTried [a, .int .i64 p] H fun r _ => r = .bool true := by
  refine code_laws_FnExactPiecesTried.go [.roI a xs.length xs] ⟨⟨rfl, ha⟩, trivial⟩ (by simp) ?_
  unfold mc_laws_FnExactPiecesTried
  (repeat (first | refine gst (hk := ?_) | (show GO _ _ _ _ _ (⟨some _, none, .call _ _⟩ :: _) _; first | (show GO _ _ _ _ _ (⟨some _, none, .call fn_laws_toIntS _⟩ :: _) _; refine go_toIntS (hk := ?_); try intro u) | (show GO _ _ _ _ _ (⟨some _, none, .call fn_laws_eqIntS _⟩ :: _) _; refine go_eqIntS (hk := ?_); try intro u) | (refine go_callp rfl code_spec_PiecesTried.callable (fun H hH => specPiecesTried_ok (hH.ints (by exact Has.auto)) (by omega)) ?_) | (refine go_callp rfl code_impl_PiecesTried.callable (fun H hH => implPiecesTried_ok (hH.ints (by exact Has.auto)) (by omega)) ?_) | (refine go_callp rfl code_laws_eqFrac.callable (fun H hH => eqFrac_ok) ?_)) | (show GO _ _ _ _ _ (⟨some _, none, _⟩ :: _) _; first | refine go_op (hk := ?_) | (refine go_nw (hk := ?_); intro u; try simp only [llc, lln, lna, lza]) | (refine go_np (hk := ?_); intro id)) | (show GO _ _ _ _ _ (⟨none, none, _⟩ :: _) _; refine go_st (hk := ?_)) | (show GO _ _ _ _ _ (⟨_, some _, _⟩ :: _) _; first | refine go_in (hk := ?_) | refine go_out (hk := ?_) | refine go_void (hk := ?_)) | (show GK _ _ _ _ (blockK _ _ _); refine gk_past rfl ?_) | (show GC _ _ _ _ _ (.cond _ _ _) _; first | refine gc_yes (h1 := ?_) | refine gc_no (h1 := ?_))))
  refine gc_cond rfl (fun h => ?_) (fun h => ?_)
  · (repeat (first | refine gst (hk := ?_) | (show GO _ _ _ _ _ (⟨some _, none, .call _ _⟩ :: _) _; first | (show GO _ _ _ _ _ (⟨some _, none, .call fn_laws_toIntS _⟩ :: _) _; refine go_toIntS (hk := ?_); try intro u) | (show GO _ _ _ _ _ (⟨some _, none, .call fn_laws_eqIntS _⟩ :: _) _; refine go_eqIntS (hk := ?_); try intro u) | (refine go_callp rfl code_spec_PiecesTried.callable (fun H hH => specPiecesTried_ok (hH.ints (by exact Has.auto)) (by omega)) ?_) | (refine go_callp rfl code_impl_PiecesTried.callable (fun H hH => implPiecesTried_ok (hH.ints (by exact Has.auto)) (by omega)) ?_) | (refine go_callp rfl code_laws_eqFrac.callable (fun H hH => eqFrac_ok) ?_)) | (show GO _ _ _ _ _ (⟨some _, none, _⟩ :: _) _; first | refine go_op (hk := ?_) | (refine go_nw (hk := ?_); intro u; try simp only [llc, lln, lna, lza]) | (refine go_np (hk := ?_); intro id)) | (show GO _ _ _ _ _ (⟨none, none, _⟩ :: _) _; refine go_st (hk := ?_)) | (show GO _ _ _ _ _ (⟨_, some _, _⟩ :: _) _; first | refine go_in (hk := ?_) | refine go_out (hk := ?_) | refine go_void (hk := ?_)) | (show GK _ _ _ _ (blockK _ _ _); refine gk_past rfl ?_) | (show GC _ _ _ _ _ (.cond _ _ _) _; first | refine gc_yes (h1 := ?_) | refine gc_no (h1 := ?_))))
    exact gk_ret rfl fun H' hH => rfl
  (repeat (first | refine gst (hk := ?_) | (show GO _ _ _ _ _ (⟨some _, none, .call _ _⟩ :: _) _; first | (show GO _ _ _ _ _ (⟨some _, none, .call fn_laws_toIntS _⟩ :: _) _; refine go_toIntS (hk := ?_); try intro u) | (show GO _ _ _ _ _ (⟨some _, none, .call fn_laws_eqIntS _⟩ :: _) _; refine go_eqIntS (hk := ?_); try intro u) | (refine go_callp rfl code_spec_PiecesTried.callable (fun H hH => specPiecesTried_ok (hH.ints (by exact Has.auto)) (by omega)) ?_) | (refine go_callp rfl code_impl_PiecesTried.callable (fun H hH => implPiecesTried_ok (hH.ints (by exact Has.auto)) (by omega)) ?_) | (refine go_callp rfl code_laws_eqFrac.callable (fun H hH => eqFrac_ok) ?_)) | (show GO _ _ _ _ _ (⟨some _, none, _⟩ :: _) _; first | refine go_op (hk := ?_) | (refine go_nw (hk := ?_); intro u; try simp only [llc, lln, lna, lza]) | (refine go_np (hk := ?_); intro id)) | (show GO _ _ _ _ _ (⟨none, none, _⟩ :: _) _; refine go_st (hk := ?_)) | (show GO _ _ _ _ _ (⟨_, some _, _⟩ :: _) _; first | refine go_in (hk := ?_) | refine go_out (hk := ?_) | refine go_void (hk := ?_)) | (show GK _ _ _ _ (blockK _ _ _); refine gk_past rfl ?_) | (show GC _ _ _ _ _ (.cond _ _ _) _; first | refine gc_yes (h1 := ?_) | refine gc_no (h1 := ?_))))
  refine go_split 32 rfl (fun hc => absurd ⟨rfl, rfl⟩ hc) (fun _ => ?_)
  (repeat (first | refine gst (hk := ?_) | (show GO _ _ _ _ _ (⟨some _, none, .call _ _⟩ :: _) _; first | (show GO _ _ _ _ _ (⟨some _, none, .call fn_laws_toIntS _⟩ :: _) _; refine go_toIntS (hk := ?_); try intro u) | (show GO _ _ _ _ _ (⟨some _, none, .call fn_laws_eqIntS _⟩ :: _) _; refine go_eqIntS (hk := ?_); try intro u) | (refine go_callp rfl code_spec_PiecesTried.callable (fun H hH => specPiecesTried_ok (hH.ints (by exact Has.auto)) (by omega)) ?_) | (refine go_callp rfl code_impl_PiecesTried.callable (fun H hH => implPiecesTried_ok (hH.ints (by exact Has.auto)) (by omega)) ?_) | (refine go_callp rfl code_laws_eqFrac.callable (fun H hH => eqFrac_ok) ?_)) | (show GO _ _ _ _ _ (⟨some _, none, _⟩ :: _) _; first | refine go_op (hk := ?_) | (refine go_nw (hk := ?_); intro u; try simp only [llc, lln, lna, lza]) | (refine go_np (hk := ?_); intro id)) | (show GO _ _ _ _ _ (⟨none, none, _⟩ :: _) _; refine go_st (hk := ?_)) | (show GO _ _ _ _ _ (⟨_, some _, _⟩ :: _) _; first | refine go_in (hk := ?_) | refine go_out (hk := ?_) | refine go_void (hk := ?_)) | (show GK _ _ _ _ (blockK _ _ _); refine gk_past rfl ?_) | (show GC _ _ _ _ _ (.cond _ _ _) _; first | refine gc_yes (h1 := ?_) | refine gc_no (h1 := ?_))))
  refine gc_cond rfl (fun hc => absurd Iff.rfl hc) (fun _ => ?_)
  (repeat (first | refine gst (hk := ?_) | (show GO _ _ _ _ _ (⟨some _, none, .call _ _⟩ :: _) _; first | (show GO _ _ _ _ _ (⟨some _, none, .call fn_laws_toIntS _⟩ :: _) _; refine go_toIntS (hk := ?_); try intro u) | (show GO _ _ _ _ _ (⟨some _, none, .call fn_laws_eqIntS _⟩ :: _) _; refine go_eqIntS (hk := ?_); try intro u) | (refine go_callp rfl code_spec_PiecesTried.callable (fun H hH => specPiecesTried_ok (hH.ints (by exact Has.auto)) (by omega)) ?_) | (refine go_callp rfl code_impl_PiecesTried.callable (fun H hH => implPiecesTried_ok (hH.ints (by exact Has.auto)) (by omega)) ?_) | (refine go_callp rfl code_laws_eqFrac.callable (fun H hH => eqFrac_ok) ?_)) | (show GO _ _ _ _ _ (⟨some _, none, _⟩ :: _) _; first | refine go_op (hk := ?_) | (refine go_nw (hk := ?_); intro u; try simp only [llc, lln, lna, lza]) | (refine go_np (hk := ?_); intro id)) | (show GO _ _ _ _ _ (⟨none, none, _⟩ :: _) _; refine go_st (hk := ?_)) | (show GO _ _ _ _ _ (⟨_, some _, _⟩ :: _) _; first | refine go_in (hk := ?_) | refine go_out (hk := ?_) | refine go_void (hk := ?_)) | (show GK _ _ _ _ (blockK _ _ _); refine gk_past rfl ?_) | (show GC _ _ _ _ _ (.cond _ _ _) _; first | refine gc_yes (h1 := ?_) | refine gc_no (h1 := ?_))))
  refine gc_cond rfl (fun hc => absurd rfl hc) (fun _ => ?_)
  (repeat (first | refine gst (hk := ?_) | (show GO _ _ _ _ _ (⟨some _, none, .call _ _⟩ :: _) _; first | (show GO _ _ _ _ _ (⟨some _, none, .call fn_laws_toIntS _⟩ :: _) _; refine go_toIntS (hk := ?_); try intro u) | (show GO _ _ _ _ _ (⟨some _, none, .call fn_laws_eqIntS _⟩ :: _) _; refine go_eqIntS (hk := ?_); try intro u) | (refine go_callp rfl code_spec_PiecesTried.callable (fun H hH => specPiecesTried_ok (hH.ints (by exact Has.auto)) (by omega)) ?_) | (refine go_callp rfl code_impl_PiecesTried.callable (fun H hH => implPiecesTried_ok (hH.ints (by exact Has.auto)) (by omega)) ?_) | (refine go_callp rfl code_laws_eqFrac.callable (fun H hH => eqFrac_ok) ?_)) | (show GO _ _ _ _ _ (⟨some _, none, _⟩ :: _) _; first | refine go_op (hk := ?_) | (refine go_nw (hk := ?_); intro u; try simp only [llc, lln, lna, lza]) | (refine go_np (hk := ?_); intro id)) | (show GO _ _ _ _ _ (⟨none, none, _⟩ :: _) _; refine go_st (hk := ?_)) | (show GO _ _ _ _ _ (⟨_, some _, _⟩ :: _) _; first | refine go_in (hk := ?_) | refine go_out (hk := ?_) | refine go_void (hk := ?_)) | (show GK _ _ _ _ (blockK _ _ _); refine gk_past rfl ?_) | (show GC _ _ _ _ _ (.cond _ _ _) _; first | refine gc_yes (h1 := ?_) | refine gc_no (h1 := ?_))))
  exact gk_ret rfl fun H' hH => rfl

end Go.Rx.Try
