import Derived.Test.YtophpmdlgphihagFnPricedPiecesD4
namespace Go.Rx.Try
open Go.Proofs
set_option maxRecDepth 100000
set_option maxHeartbeats 8000000
set_option linter.unusedSimpArgs false
set_option linter.unusedVariables false

theorem stepList_ok {A : Heap} {X : List Nat} {S S0 : Sig} {H : Heap} {id p : Nat} {bv : AV} {bs : List Int} (hS : SOk A X S H.size H) (hs : Sel S (rdr id bv p) S0) (hR : SubF S0 [byt bv bs]) (hb : ByteOk bs) (hp : p ≤ 1000000) :
    ACalls Try.prog fn_spec_stepList [.ptr id 0] H fun r H' => ∃ g : DG, r = g.u ∧ SOk A X (.rwI g.u g.xs.length g.xs :: rdr id bv g.q :: S0) H'.size H' ∧ g.xs.length ≤ 21 ∧ Bd 1000 g.xs ∧ g.q ≤ p + 50 := by
  refine code_spec_stepList.gowg (V := DG.u) (T := fun g => [.rwI g.u g.xs.length g.xs]) (C := fun g => rdr id bv g.q) (Φ := fun g => g.xs.length ≤ 21 ∧ Bd 1000 g.xs ∧ g.q ≤ p + 50) hS hs rfl hR rfl (fun _ => rfl) (fun _ => rfl) (fun _ => rfl) (by simp) ?_
  intro X'
  unfold mc_spec_stepList
  (repeat (first | refine gst (hk := ?_) | (show GO _ _ _ _ _ (⟨some _, none, .call _ _⟩ :: _) _; first | (refine go_callg rfl code_spec_reader_one.callable (fun H hH => one_ok hH (by exact Sel.auto) (by exact SubF.auto) (by rfl) (by assumption) (by omega) (by first | omega | decide) (by first | omega | decide)) ?_; intro g hg) | (refine go_callg rfl code_spec_reader_pick.callable (fun H hH => pick_ok hH (by exact Sel.auto) (by exact SubF.auto) (by assumption) (by omega)) ?_; intro g hg)) | (show GO _ _ _ _ _ (⟨some _, none, _⟩ :: _) _; first | refine go_op (hk := ?_) | (refine go_nw (hk := ?_); intro u; try simp only [llc, lln, lna, lza]) | (refine go_np (hk := ?_); intro id)) | (show GO _ _ _ _ _ (⟨none, none, _⟩ :: _) _; refine go_st (hk := ?_)) | (show GO _ _ _ _ _ (⟨_, some _, _⟩ :: _) _; first | refine go_in (hk := ?_) | refine go_out (hk := ?_) | refine go_void (hk := ?_)) | (show GK _ _ _ _ (blockK _ _ _); refine gk_past rfl ?_) | (show GC _ _ _ _ _ (.cond _ _ _) _; first | refine gc_yes (h1 := ?_) | refine gc_no (h1 := ?_))))
  rename_i u3
  obtain ⟨n, rfl⟩ : ∃ z, z = g := ⟨g, rfl⟩
  have hn7 : n ≤ 8 := by simp only [List.mem_cons, List.not_mem_nil, or_false] at hg; omega
  clear hg
  refine gc_loop (γ := DG × Int) (fun t => [(0, .ptr id 0), (3, t.1.u), (4, .int .i64 t.2), (5, .int .i64 n)]) (fun t => [.rwI t.1.u t.1.xs.length t.1.xs, rdr id bv t.1.q, byt bv bs]) (fun t => t.1.xs.length ≤ 8 ∧ Bd 1000 t.1.xs ∧ (-15 ≤ t.2 ∧ t.2 ≤ 15) ∧ t.1.q ≤ p + 1 + 3 * t.1.xs.length) (fun t => 8 - t.1.xs.length) (⟨u3, [], p + 1⟩, 0) ⟨by simp, fun x hx => by simp at hx, by simp, by simp⟩ (hb := ?_)
  rintro ⟨⟨w3, xs, q⟩, h0⟩ ⟨h1, h3, h4, h5⟩ I ν m hk
  simp only at h1 h3 h4 h5 hk ⊢
  (repeat (first | refine gst (hk := ?_) | (show GO _ _ _ _ _ (⟨some _, none, .call _ _⟩ :: _) _; first | (refine go_callg rfl code_spec_reader_one.callable (fun H hH => one_ok hH (by exact Sel.auto) (by exact SubF.auto) (by rfl) (by assumption) (by omega) (by first | omega | decide) (by first | omega | decide)) ?_; intro g hg) | (refine go_callg rfl code_spec_reader_pick.callable (fun H hH => pick_ok hH (by exact Sel.auto) (by exact SubF.auto) (by assumption) (by omega)) ?_; intro g hg)) | (show GO _ _ _ _ _ (⟨some _, none, _⟩ :: _) _; first | refine go_op (hk := ?_) | (refine go_nw (hk := ?_); intro u; try simp only [llc, lln, lna, lza]) | (refine go_np (hk := ?_); intro id)) | (show GO _ _ _ _ _ (⟨none, none, _⟩ :: _) _; refine go_st (hk := ?_)) | (show GO _ _ _ _ _ (⟨_, some _, _⟩ :: _) _; first | refine go_in (hk := ?_) | refine go_out (hk := ?_) | refine go_void (hk := ?_)) | (show GK _ _ _ _ (blockK _ _ _); refine gk_past rfl ?_) | (show GC _ _ _ _ _ (.cond _ _ _) _; first | refine gc_yes (h1 := ?_) | refine gc_no (h1 := ?_))))
  refine gc_cond rfl (fun h6 => ?_) (fun h6 => ?_)
  · (repeat (first | refine gst (hk := ?_) | (show GO _ _ _ _ _ (⟨some _, none, .call _ _⟩ :: _) _; first | (refine go_callg rfl code_spec_reader_one.callable (fun H hH => one_ok hH (by exact Sel.auto) (by exact SubF.auto) (by rfl) (by assumption) (by omega) (by first | omega | decide) (by first | omega | decide)) ?_; intro g hg) | (refine go_callg rfl code_spec_reader_pick.callable (fun H hH => pick_ok hH (by exact Sel.auto) (by exact SubF.auto) (by assumption) (by omega)) ?_; intro g hg)) | (show GO _ _ _ _ _ (⟨some _, none, _⟩ :: _) _; first | refine go_op (hk := ?_) | (refine go_nw (hk := ?_); intro u; try simp only [llc, lln, lna, lza]) | (refine go_np (hk := ?_); intro id)) | (show GO _ _ _ _ _ (⟨none, none, _⟩ :: _) _; refine go_st (hk := ?_)) | (show GO _ _ _ _ _ (⟨_, some _, _⟩ :: _) _; first | refine go_in (hk := ?_) | refine go_out (hk := ?_) | refine go_void (hk := ?_)) | (show GK _ _ _ _ (blockK _ _ _); refine gk_past rfl ?_) | (show GC _ _ _ _ _ (.cond _ _ _) _; first | refine gc_yes (h1 := ?_) | refine gc_no (h1 := ?_))))
    refine gc_cond rfl (fun h7 => ?_) (fun h7 => ?_)
    · (repeat (first | refine gst (hk := ?_) | (show GO _ _ _ _ _ (⟨some _, none, .call _ _⟩ :: _) _; first | (refine go_callg rfl code_spec_reader_one.callable (fun H hH => one_ok hH (by exact Sel.auto) (by exact SubF.auto) (by rfl) (by assumption) (by omega) (by first | omega | decide) (by first | omega | decide)) ?_; intro g hg) | (refine go_callg rfl code_spec_reader_pick.callable (fun H hH => pick_ok hH (by exact Sel.auto) (by exact SubF.auto) (by assumption) (by omega)) ?_; intro g hg)) | (show GO _ _ _ _ _ (⟨some _, none, _⟩ :: _) _; first | refine go_op (hk := ?_) | (refine go_nw (hk := ?_); intro u; try simp only [llc, lln, lna, lza]) | (refine go_np (hk := ?_); intro id)) | (show GO _ _ _ _ _ (⟨none, none, _⟩ :: _) _; refine go_st (hk := ?_)) | (show GO _ _ _ _ _ (⟨_, some _, _⟩ :: _) _; first | refine go_in (hk := ?_) | refine go_out (hk := ?_) | refine go_void (hk := ?_)) | (show GK _ _ _ _ (blockK _ _ _); refine gk_past rfl ?_) | (show GC _ _ _ _ _ (.cond _ _ _) _; first | refine gc_yes (h1 := ?_) | refine gc_no (h1 := ?_))))
      rename_i p1 hp1 p2 hp2 ua
      have hx : -1000 ≤ p2 - 15 + g ∧ p2 - 15 + g ≤ 1000 := by omega
      have hk := hk (⟨u, xs ++ [p2 - 15 + g], q + 1 + 1 + 1⟩, p2 - 15) ⟨by simp; omega, h3.app (Bd.one hx), by simp only; omega, by simp only [List.length_append, List.length_cons, List.length_nil]; omega⟩ (by simp; omega)
      simp only [List.length_append, List.length_cons, List.length_nil, Nat.zero_add] at hk
      exact gk_next hk
    · (repeat (first | refine gst (hk := ?_) | (show GO _ _ _ _ _ (⟨some _, none, .call _ _⟩ :: _) _; first | (refine go_callg rfl code_spec_reader_one.callable (fun H hH => one_ok hH (by exact Sel.auto) (by exact SubF.auto) (by rfl) (by assumption) (by omega) (by first | omega | decide) (by first | omega | decide)) ?_; intro g hg) | (refine go_callg rfl code_spec_reader_pick.callable (fun H hH => pick_ok hH (by exact Sel.auto) (by exact SubF.auto) (by assumption) (by omega)) ?_; intro g hg)) | (show GO _ _ _ _ _ (⟨some _, none, _⟩ :: _) _; first | refine go_op (hk := ?_) | (refine go_nw (hk := ?_); intro u; try simp only [llc, lln, lna, lza]) | (refine go_np (hk := ?_); intro id)) | (show GO _ _ _ _ _ (⟨none, none, _⟩ :: _) _; refine go_st (hk := ?_)) | (show GO _ _ _ _ _ (⟨_, some _, _⟩ :: _) _; first | refine go_in (hk := ?_) | refine go_out (hk := ?_) | refine go_void (hk := ?_)) | (show GK _ _ _ _ (blockK _ _ _); refine gk_past rfl ?_) | (show GC _ _ _ _ _ (.cond _ _ _) _; first | refine gc_yes (h1 := ?_) | refine gc_no (h1 := ?_))))
      rename_i p1 hp1 ua
      have hx : -1000 ≤ h0 + g ∧ h0 + g ≤ 1000 := by omega
      have hk := hk (⟨u, xs ++ [h0 + g], q + 1 + 1⟩, h0) ⟨by simp; omega, h3.app (Bd.one hx), by simp only; omega, by simp only [List.length_append, List.length_cons, List.length_nil]; omega⟩ (by simp; omega)
      simp only [List.length_append, List.length_cons, List.length_nil, Nat.zero_add] at hk
      exact gk_next hk
  (repeat (first | refine gst (hk := ?_) | (show GO _ _ _ _ _ (⟨some _, none, .call _ _⟩ :: _) _; first | (refine go_callg rfl code_spec_reader_one.callable (fun H hH => one_ok hH (by exact Sel.auto) (by exact SubF.auto) (by rfl) (by assumption) (by omega) (by first | omega | decide) (by first | omega | decide)) ?_; intro g hg) | (refine go_callg rfl code_spec_reader_pick.callable (fun H hH => pick_ok hH (by exact Sel.auto) (by exact SubF.auto) (by assumption) (by omega)) ?_; intro g hg)) | (show GO _ _ _ _ _ (⟨some _, none, _⟩ :: _) _; first | refine go_op (hk := ?_) | (refine go_nw (hk := ?_); intro u; try simp only [llc, lln, lna, lza]) | (refine go_np (hk := ?_); intro id)) | (show GO _ _ _ _ _ (⟨none, none, _⟩ :: _) _; refine go_st (hk := ?_)) | (show GO _ _ _ _ _ (⟨_, some _, _⟩ :: _) _; first | refine go_in (hk := ?_) | refine go_out (hk := ?_) | refine go_void (hk := ?_)) | (show GK _ _ _ _ (blockK _ _ _); refine gk_past rfl ?_) | (show GC _ _ _ _ _ (.cond _ _ _) _; first | refine gc_yes (h1 := ?_) | refine gc_no (h1 := ?_))))
  refine gc_cond rfl (fun h7 => ?_) (fun h7 => ?_)
  · (repeat (first | refine gst (hk := ?_) | (show GO _ _ _ _ _ (⟨some _, none, .call _ _⟩ :: _) _; first | (refine go_callg rfl code_spec_reader_one.callable (fun H hH => one_ok hH (by exact Sel.auto) (by exact SubF.auto) (by rfl) (by assumption) (by omega) (by first | omega | decide) (by first | omega | decide)) ?_; intro g hg) | (refine go_callg rfl code_spec_reader_pick.callable (fun H hH => pick_ok hH (by exact Sel.auto) (by exact SubF.auto) (by assumption) (by omega)) ?_; intro g hg)) | (show GO _ _ _ _ _ (⟨some _, none, _⟩ :: _) _; first | refine go_op (hk := ?_) | (refine go_nw (hk := ?_); intro u; try simp only [llc, lln, lna, lza]) | (refine go_np (hk := ?_); intro id)) | (show GO _ _ _ _ _ (⟨none, none, _⟩ :: _) _; refine go_st (hk := ?_)) | (show GO _ _ _ _ _ (⟨_, some _, _⟩ :: _) _; first | refine go_in (hk := ?_) | refine go_out (hk := ?_) | refine go_void (hk := ?_)) | (show GK _ _ _ _ (blockK _ _ _); refine gk_past rfl ?_) | (show GC _ _ _ _ _ (.cond _ _ _) _; first | refine gc_yes (h1 := ?_) | refine gc_no (h1 := ?_))))
    refine gk_ret rfl fun H' hH => ⟨⟨u, xs ++ [31], q + 1⟩, rfl, ⟨by simp; omega, h3.app (Bd.one (by omega)), by simp only; omega⟩, ?_⟩
    show SOk H X' [.rwI u (xs ++ [31]).length (xs ++ [31]), rdr id bv (q + 1)] H'.size H'
    rw [show (xs ++ [(31 : Int)]).length = xs.length + 1 by simp]
    exact hH.sub (by exact Sub.auto)
  (repeat (first | refine gst (hk := ?_) | (show GO _ _ _ _ _ (⟨some _, none, .call _ _⟩ :: _) _; first | (refine go_callg rfl code_spec_reader_one.callable (fun H hH => one_ok hH (by exact Sel.auto) (by exact SubF.auto) (by rfl) (by assumption) (by omega) (by first | omega | decide) (by first | omega | decide)) ?_; intro g hg) | (refine go_callg rfl code_spec_reader_pick.callable (fun H hH => pick_ok hH (by exact Sel.auto) (by exact SubF.auto) (by assumption) (by omega)) ?_; intro g hg)) | (show GO _ _ _ _ _ (⟨some _, none, _⟩ :: _) _; first | refine go_op (hk := ?_) | (refine go_nw (hk := ?_); intro u; try simp only [llc, lln, lna, lza]) | (refine go_np (hk := ?_); intro id)) | (show GO _ _ _ _ _ (⟨none, none, _⟩ :: _) _; refine go_st (hk := ?_)) | (show GO _ _ _ _ _ (⟨_, some _, _⟩ :: _) _; first | refine go_in (hk := ?_) | refine go_out (hk := ?_) | refine go_void (hk := ?_)) | (show GK _ _ _ _ (blockK _ _ _); refine gk_past rfl ?_) | (show GC _ _ _ _ _ (.cond _ _ _) _; first | refine gc_yes (h1 := ?_) | refine gc_no (h1 := ?_))))
  refine gc_cond rfl (fun h8 => ?_) (fun h8 => ?_)
  · (repeat (first | refine gst (hk := ?_) | (show GO _ _ _ _ _ (⟨some _, none, .call _ _⟩ :: _) _; first | (refine go_callg rfl code_spec_reader_one.callable (fun H hH => one_ok hH (by exact Sel.auto) (by exact SubF.auto) (by rfl) (by assumption) (by omega) (by first | omega | decide) (by first | omega | decide)) ?_; intro g hg) | (refine go_callg rfl code_spec_reader_pick.callable (fun H hH => pick_ok hH (by exact Sel.auto) (by exact SubF.auto) (by assumption) (by omega)) ?_; intro g hg)) | (show GO _ _ _ _ _ (⟨some _, none, _⟩ :: _) _; first | refine go_op (hk := ?_) | (refine go_nw (hk := ?_); intro u; try simp only [llc, lln, lna, lza]) | (refine go_np (hk := ?_); intro id)) | (show GO _ _ _ _ _ (⟨none, none, _⟩ :: _) _; refine go_st (hk := ?_)) | (show GO _ _ _ _ _ (⟨_, some _, _⟩ :: _) _; first | refine go_in (hk := ?_) | refine go_out (hk := ?_) | refine go_void (hk := ?_)) | (show GK _ _ _ _ (blockK _ _ _); refine gk_past rfl ?_) | (show GC _ _ _ _ _ (.cond _ _ _) _; first | refine gc_yes (h1 := ?_) | refine gc_no (h1 := ?_))))
    refine gk_ret rfl fun H' hH => ⟨⟨u, xs ++ [1, 1, 1, 1, 1, 1, 1, 1, 1], q + 1⟩, rfl, ⟨by simp; omega, h3.app (fun x hx => by simp at hx; omega), by simp only; omega⟩, ?_⟩
    show SOk H X' [.rwI u (xs ++ [1, 1, 1, 1, 1, 1, 1, 1, 1]).length (xs ++ [1, 1, 1, 1, 1, 1, 1, 1, 1]), rdr id bv (q + 1)] H'.size H'
    rw [show (xs ++ [(1 : Int), 1, 1, 1, 1, 1, 1, 1, 1]).length = xs.length + 9 by simp]
    exact hH.sub (by exact Sub.auto)
  (repeat (first | refine gst (hk := ?_) | (show GO _ _ _ _ _ (⟨some _, none, .call _ _⟩ :: _) _; first | (refine go_callg rfl code_spec_reader_one.callable (fun H hH => one_ok hH (by exact Sel.auto) (by exact SubF.auto) (by rfl) (by assumption) (by omega) (by first | omega | decide) (by first | omega | decide)) ?_; intro g hg) | (refine go_callg rfl code_spec_reader_pick.callable (fun H hH => pick_ok hH (by exact Sel.auto) (by exact SubF.auto) (by assumption) (by omega)) ?_; intro g hg)) | (show GO _ _ _ _ _ (⟨some _, none, _⟩ :: _) _; first | refine go_op (hk := ?_) | (refine go_nw (hk := ?_); intro u; try simp only [llc, lln, lna, lza]) | (refine go_np (hk := ?_); intro id)) | (show GO _ _ _ _ _ (⟨none, none, _⟩ :: _) _; refine go_st (hk := ?_)) | (show GO _ _ _ _ _ (⟨_, some _, _⟩ :: _) _; first | refine go_in (hk := ?_) | refine go_out (hk := ?_) | refine go_void (hk := ?_)) | (show GK _ _ _ _ (blockK _ _ _); refine gk_past rfl ?_) | (show GC _ _ _ _ _ (.cond _ _ _) _; first | refine gc_yes (h1 := ?_) | refine gc_no (h1 := ?_))))
  exact gk_ret rfl fun H' hH => ⟨⟨w3, xs, q + 1⟩, rfl, ⟨by simp only; omega, h3, by simp only; omega⟩, hH.sub (by exact Sub.auto)⟩

theorem drawPricedPieces_ok {A : Heap} {X : List Nat} {S : Sig} {H : Heap} {cv : AV} {bs : List Int} (hS : SOk A X S H.size H) (hh : Has S cv 1 bs.length (bytesL bs)) (hb : ∀ i, 0 ≤ nth bs i ∧ nth bs i ≤ 255) (hl : bs.length ≤ 1048576) :
    ACalls Try.prog fn_spec_DrawPricedPieces [cv] H fun r H' => ∃ g : DG × Int, r = .tuple [g.1.u, .int .i64 g.2] ∧ SOk A X (.rwI g.1.u g.1.xs.length g.1.xs :: S) H'.size H' ∧ g.1.xs.length ≤ 21 ∧ Bd 1000 g.1.xs ∧ -1000 ≤ g.2 ∧ g.2 ≤ 1000 := by
  refine code_spec_DrawPricedPieces.gon (R := [byt cv bs]) (V := fun g : DG × Int => .tuple [g.1.u, .int .i64 g.2]) (T := fun g => [.rwI g.1.u g.1.xs.length g.1.xs]) (Φ := fun g => g.1.xs.length ≤ 21 ∧ Bd 1000 g.1.xs ∧ -1000 ≤ g.2 ∧ g.2 ≤ 1000) hS ⟨⟨rfl, hS.valsA hh⟩, trivial⟩ (fun _ => rfl) (by simp) ?_
  unfold mc_spec_DrawPricedPieces
  (repeat (first | refine gst (hk := ?_) | (show GO _ _ _ _ _ (⟨some _, none, .call _ _⟩ :: _) _; first | (refine go_callg rfl code_spec_newReader.callable (fun H hH => newReaderC_ok hH (c := ⟨.cell, .ptr _ 0, 4, 1, [_, _, _, _]⟩) Sel.head rfl (by exact Has.auto) (by assumption) (by omega)) ?_; intro g hg) | (refine go_callg rfl code_spec_newReader.callable (fun H hH => newReader_ok hH (by exact Has.auto) (by assumption) (by omega)) ?_; intro g hg) | (refine go_callg rfl code_spec_stepList.callable (fun H hH => stepList_ok hH (by exact Sel.auto) (by exact SubF.auto) (by assumption) (by omega)) ?_; intro g hg) | (refine go_callg rfl code_spec_reader_one.callable (fun H hH => one_ok hH (by exact Sel.auto) (by exact SubF.auto) (by rfl) (by assumption) (by omega) (by first | omega | decide) (by first | omega | decide)) ?_; intro g hg)) | (show GO _ _ _ _ _ (⟨some _, none, _⟩ :: _) _; first | refine go_op (hk := ?_) | (refine go_nw (hk := ?_); intro u; try simp only [llc, lln, lna, lza]) | (refine go_np (hk := ?_); intro id)) | (show GO _ _ _ _ _ (⟨none, none, _⟩ :: _) _; refine go_st (hk := ?_)) | (show GO _ _ _ _ _ (⟨_, some _, _⟩ :: _) _; first | refine go_in (hk := ?_) | refine go_out (hk := ?_) | refine go_void (hk := ?_)) | (show GK _ _ _ _ (blockK _ _ _); refine gk_past rfl ?_) | (show GC _ _ _ _ _ (.cond _ _ _) _; first | refine gc_yes (h1 := ?_) | refine gc_no (h1 := ?_))))
  rename_i r0 hr0 d hd
  obtain ⟨d1, d2, d3⟩ := hd
  simp only [List.mem_cons, List.not_mem_nil, or_false] at hg
  exact gk_ret rfl fun H' hH => ⟨⟨d, g⟩, rfl, ⟨d1, d2, by simp only; omega, by simp only; omega⟩, hH.sub (by exact Sub.auto)⟩

theorem validPieces_ok {H : Heap} {a : AV} {xs : List Int} {p : Int} (ha : Ints H a xs) (hl : xs.length ≤ 1000000000) :
    ACalls Try.prog fn_impl_validPieces [a, .int .i64 p] H fun r H' => r = .bool (decide (PsOk xs p)) ∧ H' = H := by
  refine ACalls.val ?_ rfl
  refine code_impl_validPieces.go [.roI a xs.length xs] ⟨⟨rfl, ha⟩, trivial⟩ (by simp) ?_
  unfold mc_impl_validPieces
  have no : (PsOk xs p → False) → decide (PsOk xs p) = false := fun h => decide_eq_false h
  (repeat (first | refine gst (hk := ?_) | (show GO _ _ _ _ _ (⟨some _, none, _⟩ :: _) _; first | refine go_op (hk := ?_) | (refine go_nw (hk := ?_); intro u; try simp only [llc, lln, lna, lza]) | (refine go_np (hk := ?_); intro id)) | (show GO _ _ _ _ _ (⟨none, none, _⟩ :: _) _; refine go_st (hk := ?_)) | (show GO _ _ _ _ _ (⟨_, some _, _⟩ :: _) _; first | refine go_in (hk := ?_) | refine go_out (hk := ?_) | refine go_void (hk := ?_)) | (show GK _ _ _ _ (blockK _ _ _); refine gk_past rfl ?_) | (show GC _ _ _ _ _ (.cond _ _ _) _; first | refine gc_yes (h1 := ?_) | refine gc_no (h1 := ?_))))
  refine go_callp rfl code_impl_validHeights.callable (fun H hH => validHeights_ok (hH.ints (by exact Has.auto)) hl) ?_
  (repeat (first | refine gst (hk := ?_) | (show GO _ _ _ _ _ (⟨some _, none, _⟩ :: _) _; first | refine go_op (hk := ?_) | (refine go_nw (hk := ?_); intro u; try simp only [llc, lln, lna, lza]) | (refine go_np (hk := ?_); intro id)) | (show GO _ _ _ _ _ (⟨none, none, _⟩ :: _) _; refine go_st (hk := ?_)) | (show GO _ _ _ _ _ (⟨_, some _, _⟩ :: _) _; first | refine go_in (hk := ?_) | refine go_out (hk := ?_) | refine go_void (hk := ?_)) | (show GK _ _ _ _ (blockK _ _ _); refine gk_past rfl ?_) | (show GC _ _ _ _ _ (.cond _ _ _) _; first | refine gc_yes (h1 := ?_) | refine gc_no (h1 := ?_))))
  refine go_split 7 rfl (fun h1 => ?_) (fun h1 => ?_)
  · (repeat (first | refine gst (hk := ?_) | (show GO _ _ _ _ _ (⟨some _, none, _⟩ :: _) _; first | refine go_op (hk := ?_) | (refine go_nw (hk := ?_); intro u; try simp only [llc, lln, lna, lza]) | (refine go_np (hk := ?_); intro id)) | (show GO _ _ _ _ _ (⟨none, none, _⟩ :: _) _; refine go_st (hk := ?_)) | (show GO _ _ _ _ _ (⟨_, some _, _⟩ :: _) _; first | refine go_in (hk := ?_) | refine go_out (hk := ?_) | refine go_void (hk := ?_)) | (show GK _ _ _ _ (blockK _ _ _); refine gk_past rfl ?_) | (show GC _ _ _ _ _ (.cond _ _ _) _; first | refine gc_yes (h1 := ?_) | refine gc_no (h1 := ?_))))
    refine go_split 11 rfl (fun h2 => ?_) (fun h2 => ?_)
    · (repeat (first | refine gst (hk := ?_) | (show GO _ _ _ _ _ (⟨some _, none, _⟩ :: _) _; first | refine go_op (hk := ?_) | (refine go_nw (hk := ?_); intro u; try simp only [llc, lln, lna, lza]) | (refine go_np (hk := ?_); intro id)) | (show GO _ _ _ _ _ (⟨none, none, _⟩ :: _) _; refine go_st (hk := ?_)) | (show GO _ _ _ _ _ (⟨_, some _, _⟩ :: _) _; first | refine go_in (hk := ?_) | refine go_out (hk := ?_) | refine go_void (hk := ?_)) | (show GK _ _ _ _ (blockK _ _ _); refine gk_past rfl ?_) | (show GC _ _ _ _ _ (.cond _ _ _) _; first | refine gc_yes (h1 := ?_) | refine gc_no (h1 := ?_))))
      exact gk_ret rfl fun H' hH => ⟨by
        simp only [tupleOf]; congr 1
        exact decide_eq_decide.2 ⟨fun h => ⟨h1, by omega⟩, fun h => by have := h.2; omega⟩, hH.leE⟩
    · (repeat (first | refine gst (hk := ?_) | (show GO _ _ _ _ _ (⟨some _, none, _⟩ :: _) _; first | refine go_op (hk := ?_) | (refine go_nw (hk := ?_); intro u; try simp only [llc, lln, lna, lza]) | (refine go_np (hk := ?_); intro id)) | (show GO _ _ _ _ _ (⟨none, none, _⟩ :: _) _; refine go_st (hk := ?_)) | (show GO _ _ _ _ _ (⟨_, some _, _⟩ :: _) _; first | refine go_in (hk := ?_) | refine go_out (hk := ?_) | refine go_void (hk := ?_)) | (show GK _ _ _ _ (blockK _ _ _); refine gk_past rfl ?_) | (show GC _ _ _ _ _ (.cond _ _ _) _; first | refine gc_yes (h1 := ?_) | refine gc_no (h1 := ?_))))
      exact gk_ret rfl fun H' hH => ⟨by rw [no fun h => by have := h.2; omega]; rfl, hH.leE⟩
  · (repeat (first | refine gst (hk := ?_) | (show GO _ _ _ _ _ (⟨some _, none, _⟩ :: _) _; first | refine go_op (hk := ?_) | (refine go_nw (hk := ?_); intro u; try simp only [llc, lln, lna, lza]) | (refine go_np (hk := ?_); intro id)) | (show GO _ _ _ _ _ (⟨none, none, _⟩ :: _) _; refine go_st (hk := ?_)) | (show GO _ _ _ _ _ (⟨_, some _, _⟩ :: _) _; first | refine go_in (hk := ?_) | refine go_out (hk := ?_) | refine go_void (hk := ?_)) | (show GK _ _ _ _ (blockK _ _ _); refine gk_past rfl ?_) | (show GC _ _ _ _ _ (.cond _ _ _) _; first | refine gc_yes (h1 := ?_) | refine gc_no (h1 := ?_))))
    exact gk_ret rfl fun H' hH => ⟨by rw [no fun h => h1 h.1]; rfl, hH.leE⟩

theorem missedSquares_ok {H : Heap} {a : AV} {ys : List Int} (ha : Ints H a ys) (hb : ∀ j, -30 ≤ nth ys j ∧ nth ys j ≤ 30) (h1 : 1 ≤ ys.length) (h2 : ys.length ≤ 8) :
    ACalls Try.prog fn_impl_missedSquares [a] H fun r H' => r = frV (pieR ys 0 ys.length) ∧ H' = H := by
  refine ACalls.val ?_ rfl
  refine code_impl_missedSquares.go [.roI a ys.length ys] ⟨⟨rfl, ha⟩, trivial⟩ (by simp) ?_
  unfold mc_impl_missedSquares
  (repeat (first | refine gst (hk := ?_) | (show GO _ _ _ _ _ (⟨some _, none, _⟩ :: _) _; first | refine go_op (hk := ?_) | (refine go_nw (hk := ?_); intro u; try simp only [llc, lln, lna, lza]) | (refine go_np (hk := ?_); intro id)) | (show GO _ _ _ _ _ (⟨none, none, _⟩ :: _) _; refine go_st (hk := ?_)) | (show GO _ _ _ _ _ (⟨_, some _, _⟩ :: _) _; first | refine go_in (hk := ?_) | refine go_out (hk := ?_) | refine go_void (hk := ?_)) | (show GK _ _ _ _ (blockK _ _ _); refine gk_past rfl ?_) | (show GC _ _ _ _ _ (.cond _ _ _) _; first | refine gc_yes (h1 := ?_) | refine gc_no (h1 := ?_))))
  revert id; intro i2
  refine gc_up ys.length (fun d => [(0, a), (2, .ptr i2 0), (3, .int .i64 (wsS ys 0 d)), (4, .int .i64 (wsQ ys 0 d)), (7, a), (8, .int .i64 (ys.length : Int)), (9, .int .i64 (d : Int))]) (fun _ => [cel0 i2, .roI a ys.length ys]) (hb := ?_)
  intro d hd I ν m hk
  obtain ⟨⟨a1, a2⟩, a3, a4⟩ := ws_bd hb 0 d
  (repeat (first | refine gst (hk := ?_) | (show GO _ _ _ _ _ (⟨some _, none, _⟩ :: _) _; first | refine go_op (hk := ?_) | (refine go_nw (hk := ?_); intro u; try simp only [llc, lln, lna, lza]) | (refine go_np (hk := ?_); intro id)) | (show GO _ _ _ _ _ (⟨none, none, _⟩ :: _) _; refine go_st (hk := ?_)) | (show GO _ _ _ _ _ (⟨_, some _, _⟩ :: _) _; first | refine go_in (hk := ?_) | refine go_out (hk := ?_) | refine go_void (hk := ?_)) | (show GK _ _ _ _ (blockK _ _ _); refine gk_past rfl ?_) | (show GC _ _ _ _ _ (.cond _ _ _) _; first | refine gc_yes (h1 := ?_) | refine gc_no (h1 := ?_))))
  refine gc_cond rfl (fun h => ?_) (fun h => ?_)
  · have hk := hk (by omega)
    have hx := hb d
    have m1 := absmul (k := nth ys d) (l := nth ys d) (A := 30) (B := 30) (by omega) (by omega) (by omega) (by omega)
    rw [show wsS ys 0 (d + 1) = wsS ys 0 d + nth ys (0 + d) from rfl, show wsQ ys 0 (d + 1) = wsQ ys 0 d + nth ys (0 + d) * nth ys (0 + d) from rfl, Nat.zero_add] at hk
    (repeat (first | refine gst (hk := ?_) | (show GO _ _ _ _ _ (⟨some _, none, _⟩ :: _) _; first | refine go_op (hk := ?_) | (refine go_nw (hk := ?_); intro u; try simp only [llc, lln, lna, lza]) | (refine go_np (hk := ?_); intro id)) | (show GO _ _ _ _ _ (⟨none, none, _⟩ :: _) _; refine go_st (hk := ?_)) | (show GO _ _ _ _ _ (⟨_, some _, _⟩ :: _) _; first | refine go_in (hk := ?_) | refine go_out (hk := ?_) | refine go_void (hk := ?_)) | (show GK _ _ _ _ (blockK _ _ _); refine gk_past rfl ?_) | (show GC _ _ _ _ _ (.cond _ _ _) _; first | refine gc_yes (h1 := ?_) | refine gc_no (h1 := ?_))))
    exact gk_next hk
  · obtain rfl : d = ys.length := by omega
    have m1 := absmul (k := wsS ys 0 ys.length) (l := wsS ys 0 ys.length) (A := 240) (B := 240) (by omega) (by omega) (by omega) (by omega)
    have m2 : ((ys.length : Nat) : Int) * wsQ ys 0 ys.length ≤ 8 * 7200 := Int.mul_le_mul (by omega) (by omega) (by omega) (by omega)
    have m3 : 0 ≤ ((ys.length : Nat) : Int) * wsQ ys 0 ys.length := Int.mul_nonneg (by omega) (by omega)
    (repeat (first | refine gst (hk := ?_) | (show GO _ _ _ _ _ (⟨some _, none, _⟩ :: _) _; first | refine go_op (hk := ?_) | (refine go_nw (hk := ?_); intro u; try simp only [llc, lln, lna, lza]) | (refine go_np (hk := ?_); intro id)) | (show GO _ _ _ _ _ (⟨none, none, _⟩ :: _) _; refine go_st (hk := ?_)) | (show GO _ _ _ _ _ (⟨_, some _, _⟩ :: _) _; first | refine go_in (hk := ?_) | refine go_out (hk := ?_) | refine go_void (hk := ?_)) | (show GK _ _ _ _ (blockK _ _ _); refine gk_past rfl ?_) | (show GC _ _ _ _ _ (.cond _ _ _) _; first | refine gc_yes (h1 := ?_) | refine gc_no (h1 := ?_))))
    refine go_callp rfl code_impl_lowest.callable (fun H hH => lowest_ok (a := ((ys.length : Nat) : Int) * wsQ ys 0 ys.length - wsS ys 0 ys.length * wsS ys 0 ys.length) (b := ((ys.length : Nat) : Int)) (by omega) (by omega) (by omega)) ?_
    rw [show ((((ys.length : Nat) : Int) * wsQ ys 0 ys.length - wsS ys 0 ys.length * wsS ys 0 ys.length : Int) : Rat) / (((ys.length : Nat) : Int) : Rat) = pieR ys 0 ys.length from rfl]
    (repeat (first | refine gst (hk := ?_) | (show GO _ _ _ _ _ (⟨some _, none, _⟩ :: _) _; first | refine go_op (hk := ?_) | (refine go_nw (hk := ?_); intro u; try simp only [llc, lln, lna, lza]) | (refine go_np (hk := ?_); intro id)) | (show GO _ _ _ _ _ (⟨none, none, _⟩ :: _) _; refine go_st (hk := ?_)) | (show GO _ _ _ _ _ (⟨_, some _, _⟩ :: _) _; first | refine go_in (hk := ?_) | refine go_out (hk := ?_) | refine go_void (hk := ?_)) | (show GK _ _ _ _ (blockK _ _ _); refine gk_past rfl ?_) | (show GC _ _ _ _ _ (.cond _ _ _) _; first | refine gc_yes (h1 := ?_) | refine gc_no (h1 := ?_))))
    exact gk_rets (rvs_c rfl (by exact Sel.auto) rfl rfl rvs_nil) fun H' hH => ⟨rfl, hH.leE⟩

theorem sumY_eq {f g : Nat → Int} : ∀ {d : Nat}, (∀ j, j < d → f j = g j) → sumY f d = sumY g d
  | 0, _ => rfl
  | d + 1, h => by
    show sumY f d + f d = sumY g d + g d
    rw [sumY_eq fun j hj => h j (by omega), h d (by omega)]

theorem pie_win {xs : List Int} {i k : Nat} (h2 : k ≤ xs.length) : pieR (winL xs i k) 0 (winL xs i k).length = pieR xs i k := by
  have e0 := win_len2 (xs := xs) (i := i) h2
  have e1 : wsS (winL xs i k) 0 (k - i) = wsS xs i (k - i) := sumY_eq fun j hj => by rw [Nat.zero_add, win_nth h2 hj]
  have e2 : wsQ (winL xs i k) 0 (k - i) = wsQ xs i (k - i) := sumY_eq fun j hj => by rw [Nat.zero_add, win_nth h2 hj]
  rw [e0]
  unfold pieR
  rw [Nat.sub_zero, e1, e2]

theorem Steps.win {xs : List Int} (h : Steps xs) (i k : Nat) (j : Nat) : -30 ≤ nth (winL xs i k) j ∧ nth (winL xs i k) j ≤ 30 :=
  (Bd.nth (fun x hx => h.1 x (by unfold winL at hx; exact List.mem_of_mem_drop (List.mem_of_mem_take hx)) : Bd 30 (winL xs i k)) (by omega) j)

def MpO (ob : Nat → Option OB) (id : Nat) (es : List ME) (clk : Nat) : Prop := ∃ o, ob id = some o ∧ o.mo = some (.map es clk)

def ItO (ob : Nat → Option OB) (id m since : Nat) (seen : List Nat) (last : Nat) : Prop := ∃ o, ob id = some o ∧ o.mo = some (.iter m since seen last)

def seo (ob : Nat → Option OB) (id : Nat) (o : OB) : Nat → Option OB := fun i => if i = id then some o else ob i

theorem mp_same {ob : Nat → Option OB} {id : Nat} {es : List ME} {clk : Nat} : MpO (seo ob id (obM (.map es clk))) id es clk := ⟨obM (.map es clk), by simp [seo], rfl⟩

theorem it_same {ob : Nat → Option OB} {id m since last : Nat} {seen : List Nat} : ItO (seo ob id (obM (.iter m since seen last))) id m since seen last := ⟨obM (.iter m since seen last), by simp [seo], rfl⟩

theorem mp_other {ob : Nat → Option OB} {id j : Nat} {es : List ME} {clk : Nat} {o : OB} (h : MpO ob j es clk) (hn : j ≠ id) : MpO (seo ob id o) j es clk := by
  obtain ⟨x, h1, h2⟩ := h
  exact ⟨x, by simp only [seo]; rw [if_neg hn]; exact h1, h2⟩

theorem it_other {ob : Nat → Option OB} {id j m since last : Nat} {seen : List Nat} {o : OB} (h : ItO ob j m since seen last) (hn : j ≠ id) : ItO (seo ob id o) j m since seen last := by
  obtain ⟨x, h1, h2⟩ := h
  exact ⟨x, by simp only [seo]; rw [if_neg hn]; exact h1, h2⟩

theorem mp_fresh {ob : Nat → Option OB} {id j : Nat} {es : List ME} {clk : Nat} (h : MpO ob j es clk) (hn : ob id = none) : j ≠ id := by
  rintro rfl
  obtain ⟨x, h1, _⟩ := h
  rw [hn] at h1; cases h1

theorem mp_it {ob : Nat → Option OB} {id j m since last : Nat} {seen : List Nat} {es : List ME} {clk : Nat} (h : MpO ob j es clk) (h' : ItO ob id m since seen last) : j ≠ id := by
  rintro rfl
  obtain ⟨x, h1, h2⟩ := h
  obtain ⟨y, h3, h4⟩ := h'
  rw [h1] at h3; cases h3
  rw [h2] at h4; cases h4

theorem mp_eq {ob ob' : Nat → Option OB} {j : Nat} {es : List ME} {clk : Nat} (h : MpO ob j es clk) (he : ob' j = ob j) : MpO ob' j es clk := by
  obtain ⟨x, h1, h2⟩ := h
  exact ⟨x, by rw [he]; exact h1, h2⟩

/-- what was there is there, but for some -/
def ExO (ob0 ob : Nat → Option OB) (I : List Nat) : Prop := ∀ j o, j ∉ I → ob0 j = some o → ob j = some o

theorem ExO.refl (ob : Nat → Option OB) (I : List Nat) : ExO ob ob I := fun _ _ _ h => h

theorem ExO.new {ob0 ob : Nat → Option OB} {I : List Nat} (h : ExO ob0 ob I) {id : Nat} (hn : ob id = none) (o : OB) : ExO ob0 (seo ob id o) I := fun j p h1 h2 => by
  have h3 := h j p h1 h2
  have : j ≠ id := by rintro rfl; rw [hn] at h3; cases h3
  simp only [seo]; rw [if_neg this]; exact h3

theorem ExO.gone {ob0 ob : Nat → Option OB} {I : List Nat} (h : ExO ob0 ob I) {id : Nat} (hi : id ∉ I) (hn : ob id = none) : ob0 id = none := by
  cases h0 : ob0 id with
  | none => rfl
  | some o => rw [h id o hi h0] at hn; cases hn

theorem ExO.mod {ob0 ob : Nat → Option OB} {I : List Nat} (h : ExO ob0 ob I) {id : Nat} (hn : ob0 id = none ∨ id ∈ I) (o : OB) : ExO ob0 (seo ob id o) I := fun j p h1 h2 => by
  have : j ≠ id := by
    rintro rfl
    rcases hn with hn | hn
    · rw [hn] at h2; cases h2
    · exact h1 hn
  simp only [seo]; rw [if_neg this]; exact h j p h1 h2

/-- fewer objects may be told -/
theorem acalls_obs {P : Program} {f : FuncId} {args : List AV} {H : Heap} {R R' : AV → Heap → Prop} (h : ACalls P f args H R)
    (hw : ∀ r H', R r H' → ∃ ob, R' r ⟨H'.size, H'.get, ob⟩ ∧ ∀ i o, ob i = some o → H'.ob i = some o) : ACalls P f args H R' :=
  fun ι w us h1 h2 => (h ι w us h1 h2).mono fun e w' ⟨r, u, H', ι', a1, a2, a3, a4, a5⟩ => by
    obtain ⟨ob, b1, b2⟩ := hw r H' a2
    exact ⟨r, u, ⟨H'.size, H'.get, ob⟩, ι', a1, b1, a3, ⟨a4.fresh, a4.blk, a4.apart, fun id o h => a4.obs id o (b2 id o h), fun id o r id' o' r' g1 g2 => a4.oapart id o r id' o' r' (b2 _ _ g1) (b2 _ _ g2), a4.gl⟩,
      ⟨a5.le, a5.size, a5.wsize, a5.os, a5.tape, a5.output, a5.rows, a5.news, fun id o r g1 g2 => a5.newo id o r (b2 _ _ g1) g2⟩⟩

theorem sok_mapAt {A : Heap} {X : List Nat} {S : Sig} {m : Nat} {H : Heap} {ob : Nat → Option OB} {id : Nat} {es : List ME} {clk : Nat} (h : SOk (A.obs ob) X S m H) (hm : MpO ob id es clk) : H.mapAt (.map id) = some (id, es, clk) := by
  obtain ⟨o, h1, h2⟩ := hm
  have : H.ob = ob := h.le.ob
  simp only [Heap.mapAt, this, h1, h2]

theorem sok_iterAt {A : Heap} {X : List Nat} {S : Sig} {n : Nat} {H : Heap} {ob : Nat → Option OB} {id m since last : Nat} {seen : List Nat} (h : SOk (A.obs ob) X S n H) (hm : ItO ob id m since seen last) : H.iterAt (.ptr id 0) = some (id, m, since, seen, last) := by
  obtain ⟨o, h1, h2⟩ := hm
  have : H.ob = ob := h.le.ob
  simp only [Heap.iterAt, this, h1, h2]

theorem sok_seto {A : Heap} {X : List Nat} {S : Sig} {H : Heap} {ob : Nat → Option OB} (h : SOk (A.obs ob) X S H.size H) (id : Nat) (o : OB) : SOk (A.obs (seo ob id o)) X S (H.seto id (some o)).size (H.seto id (some o)) := by
  have hob : H.ob = ob := h.le.ob
  have := h.obs (seo ob id o) (Nat.le_refl _) (Nat.le_refl _)
  have e : H.seto id (some o) = ⟨H.size, H.get, seo ob id o⟩ := by unfold Heap.seto seo; rw [hob]
  rw [e]; exact this

theorem sok_newo {A : Heap} {X : List Nat} {S : Sig} {H : Heap} {ob : Nat → Option OB} (h : SOk (A.obs ob) X S H.size H) (o : OB) : SOk (A.obs (seo ob H.size o)) X S (H.newo o).size (H.newo o) := by
  have hob : H.ob = ob := h.le.ob
  have := h.obs (seo ob H.size o) (Nat.le_succ _) (Nat.le_refl _)
  have e : H.newo o = ⟨H.size + 1, H.get, seo ob H.size o⟩ := by unfold Heap.newo seo; rw [hob]
  rw [e]; exact this

theorem go_mk {P : Program} {A : Heap} {X : List Nat} {E : List (Nat × AV)} {S : Sig} {r : List MI} {K : St → Prop} {ob : Nat → Option OB} {d : Nat} (hk : ∀ id, ob id = none → GO P (A.obs (seo ob id (obM (.map [] 0)))) X ((d, .map id) :: E) S r K) : GO P (A.obs ob) X E S (⟨some d, none, .mq .mk⟩ :: r) K := by
  refine ⟨fun s hf => ?_⟩
  rw [mops_cons]
  simp only [mone, mexec, mmq]
  intro h1 h2
  rw [show s.H.ob = ob from hf.ok.le.ob] at h2
  exact (hk s.H.size h2).g _ ⟨look_cons hf.env d _, sok_newo hf.ok _⟩

theorem go_rg {P : Program} {A : Heap} {X : List Nat} {E : List (Nat × AV)} {S : Sig} {r : List MI} {K : St → Prop} {ob : Nat → Option OB} {d m : Nat} {x : MX} {es : List ME} {clk : Nat} (hx : evE E x = some (.map m)) (hm : MpO ob m es clk)
    (hk : ∀ id, ob id = none → GO P (A.obs (seo ob id (obM (.iter m clk [] clk)))) X ((d, .ptr id 0) :: E) S r K) : GO P (A.obs ob) X E S (⟨some d, none, .mq (.rg x)⟩ :: r) K := by
  refine ⟨fun s hf => ?_⟩
  rw [mops_cons]
  simp only [mone, mexec, mmq, ev_of hf.env hx, sok_mapAt hf.ok hm]
  intro h1 h2
  rw [show s.H.ob = ob from hf.ok.le.ob] at h2
  exact (hk s.H.size h2).g _ ⟨look_cons hf.env d _, sok_newo hf.ok _⟩

theorem go_nx {P : Program} {A : Heap} {X : List Nat} {E : List (Nat × AV)} {S : Sig} {r : List MI} {K : St → Prop} {ob : Nat → Option OB} {d id m since last : Nat} {seen : List Nat} {x : MX} {es : List ME} {clk : Nat} (hx : evE E x = some (.ptr id 0)) (hi : ItO ob id m since seen last) (hm : MpO ob m es clk)
    (h1 : ∀ e ∈ es, e.born < since) (h2 : since ≤ last) (h3 : (∀ e ∈ es, e.born ∈ seen) → GO P (A.obs ob) X ((d, .tuple [.bool false]) :: E) S r K)
    (h4 : ∀ e ∈ es, e.born ∉ seen → GO P (A.obs (seo ob id (obM (.iter m since (seen ++ [e.born]) clk)))) X ((d, .tuple [.bool true, e.key, e.val]) :: E) S r K) : GO P (A.obs ob) X E S (⟨some d, none, .mq (.nx x)⟩ :: r) K := by
  refine ⟨fun s hf => ?_⟩
  rw [mops_cons]
  simp only [mone, mexec, mmq, ev_of hf.env hx, sok_iterAt hf.ok hi, sok_mapAt hf.ok hm]
  exact ⟨h1, h2, fun g => (h3 g).g _ ⟨look_cons hf.env d _, hf.ok⟩, fun e he hn => (h4 e he hn).g _ ⟨look_cons hf.env d _, sok_seto hf.ok _ _⟩⟩

theorem go_en {P : Program} {A : Heap} {X : List Nat} {E : List (Nat × AV)} {S : Sig} {r : List MI} {K : St → Prop} {ob : Nat → Option OB} {d id m since last : Nat} {seen : List Nat} {x : MX} {es : List ME} {e : ME} (hx : evE E x = some (.ptr id 0)) (hi : ItO ob id m since (seen ++ [e.born]) last) (hm : MpO ob m es last)
    (he : e ∈ es) (hn : (es.map (·.born)).Nodup) (hk : GO P (A.obs ob) X ((d, .tuple [e.key, e.val]) :: E) S r K) : GO P (A.obs ob) X E S (⟨some d, none, .mq (.en x)⟩ :: r) K := by
  refine ⟨fun s hf => ?_⟩
  rw [mops_cons]
  have key : ∀ l : List ME, e ∈ l → (l.map (·.born)).Nodup → l.find? (fun q => q.born == e.born) = some e := by
    intro l
    induction l with
    | nil => intro h; simp at h
    | cons q l ih =>
      intro hm hn
      rw [List.map_cons, List.nodup_cons] at hn
      rw [List.find?_cons]
      rcases List.mem_cons.1 hm with rfl | hm
      · simp
      · have : ¬ q.born = e.born := fun h => hn.1 (by rw [h]; exact List.mem_map.2 ⟨e, hm, rfl⟩)
        have h2 : (q.born == e.born) = false := by simpa using this
        rw [h2]; exact ih hm hn.2
  simp only [mone, mexec, mmq, ev_of hf.env hx, sok_iterAt hf.ok hi, sok_mapAt hf.ok hm, List.getLast?_append, List.getLast?_singleton, Option.some_or, key es he hn]
  exact ⟨trivial, hk.g _ ⟨look_cons hf.env d _, hf.ok⟩⟩

theorem go_lk {P : Program} {A : Heap} {X : List Nat} {E : List (Nat × AV)} {S : Sig} {r : List MI} {K : St → Prop} {ob : Nat → Option OB} {d m : Nat} {x i : MX} {st : Bool} {z k v : AV} {j : Nat} {es : List ME} {clk : Nat} (hx : evE E x = some (.map m)) (hi : evE E i = some k) (hm : MpO ob m es clk)
    (hf : findA st k es 0 = some (some (j, v))) (hk : GO P (A.obs ob) X ((d, v) :: E) S r K) : GO P (A.obs ob) X E S (⟨some d, none, .mq (.lk x i false st z)⟩ :: r) K := by
  refine ⟨fun s hs => ?_⟩
  rw [mops_cons]
  simp only [mone, mexec, mmq, ev_of hs.env hx, ev_of hs.env hi, sok_mapAt hs.ok hm, hf, Bool.false_eq_true, if_false]
  exact hk.g _ ⟨look_cons hs.env d _, hs.ok⟩

/-- a new entry -/
theorem go_up {P : Program} {A : Heap} {X : List Nat} {E : List (Nat × AV)} {S : Sig} {r : List MI} {K : St → Prop} {ob : Nat → Option OB} {m : Nat} {x i y : MX} {st : Bool} {k v : AV} {es : List ME} {clk : Nat} (hx : evE E x = some (.map m)) (hi : evE E i = some k) (hy : evE E y = some v) (hm : MpO ob m es clk)
    (hf : findA st k es 0 = some none) (hk : GO P (A.obs (seo ob m (obM (.map (es ++ [⟨k, v, clk⟩]) (clk + 1))))) X E S r K) : GO P (A.obs ob) X E S (⟨none, none, .mq (.up x i y st)⟩ :: r) K := by
  refine ⟨fun s hs => ?_⟩
  rw [mops_cons]
  simp only [mone, mexec, mmq, ev_of hs.env hx, ev_of hs.env hi, ev_of hs.env hy, sok_mapAt hs.ok hm, hf]
  exact hk.g _ ⟨hs.env, sok_seto hs.ok _ _⟩

theorem go_dl {P : Program} {A : Heap} {X : List Nat} {E : List (Nat × AV)} {S : Sig} {r : List MI} {K : St → Prop} {ob : Nat → Option OB} {m : Nat} {x i : MX} {st : Bool} {k v : AV} {j : Nat} {es : List ME} {clk : Nat} (hx : evE E x = some (.map m)) (hi : evE E i = some k) (hm : MpO ob m es clk)
    (hf : findA st k es 0 = some (some (j, v))) (hk : GO P (A.obs (seo ob m (obM (.map (es.eraseIdx j) clk)))) X E S r K) : GO P (A.obs ob) X E S (⟨none, none, .mq (.dl x i st)⟩ :: r) K := by
  refine ⟨fun s hs => ?_⟩
  rw [mops_cons]
  simp only [mone, mexec, mmq, ev_of hs.env hx, ev_of hs.env hi, sok_mapAt hs.ok hm, hf]
  exact hk.g _ ⟨hs.env, sok_seto hs.ok _ _⟩

/-- a call that changes objects -/
theorem go_callA {P : Program} {A : Heap} {X : List Nat} {E : List (Nat × AV)} {S : Sig} {r : List MI} {K : St → Prop} {ob : Nat → Option OB} {d : Nat} {f : FuncId} {args : List MX} {vs : List AV} {γ : Type} {O : γ → Nat → Option OB} {V : γ → AV} {T : γ → Sig} {Φ : γ → Prop} (ha : evsE E args = some vs) (hc : Callable P f)
    (h : ∀ H, SOk (A.obs ob) X S H.size H → ACalls P f vs H fun r H' => ∃ g, r = V g ∧ SOk (A.obs (O g)) X (T g) H'.size H' ∧ Φ g) (hk : ∀ g, Φ g → GO P (A.obs (O g)) X ((d, V g) :: E) (T g) r K) : GO P (A.obs ob) X E S (⟨some d, none, .call f args⟩ :: r) K := by
  refine ⟨fun s hf => ?_⟩
  rw [mops_cons]
  have := h s.H hf.ok
  rw [← evs_of hf.env ha] at this
  refine ⟨hc, _, this, ?_⟩
  rintro v' H' ⟨g, rfl, ho, hg⟩
  exact (hk g hg).g _ ⟨look_cons hf.env d _, ho⟩

/-- a loop that changes objects -/
theorem gc_loopA {P : Program} {A : Heap} {X : List Nat} {E : List (Nat × AV)} {S : Sig} {Q : Exit → St → Prop} {γ : Type} (O : γ → Nat → Option OB) (EI : γ → List (Nat × AV)) (SI : γ → Sig) (Φ : γ → Prop) (μ : γ → Nat) (g0 : γ) {c : MC} (h0 : Φ g0)
    (hE : Cov E (EI g0)) (hS : Sub S (SI g0))
    (hb : ∀ g, Φ g → ∀ (I : St → Prop) (ν : St → Nat) (m : Nat), (∀ g', Φ g' → μ g' < μ g → GK (A.obs (O g')) X (EI g') (SI g') (loopK I ν m Q .normal)) → GC P (A.obs (O g)) X (EI g) (SI g) c (loopK I ν m Q)) : GC P (A.obs (O g0)) X E S (.loop c) Q := by
  refine ⟨fun s hf => ?_⟩
  rw [mwp_loop]
  refine mloop_down (fun j s => ∃ g, Φ g ∧ μ g = j ∧ Fit (A.obs (O g)) X (EI g) (SI g) s) (μ g0) ⟨g0, h0, rfl, hf.cov hE hS⟩ ?_
  rintro j s' ⟨g, h1, h2, h3⟩ I ν m hn
  refine (hb g h1 I ν m (fun g' k1 k2 => ⟨fun s'' hf'' => ?_⟩)).g s' h3
  exact hn (μ g') s'' (by omega) ⟨g', k1, rfl, hf''⟩

/-- the same state, by its objects -/
theorem sok_leO {A : Heap} {X : List Nat} {S : Sig} {H H' : Heap} {ob ob' : Nat → Option OB} (h : SOk (A.obs ob) X S H.size H) (h1 : H.size ≤ H'.size) (h2 : ∀ id, id < H.size → H'.get id = H.get id) (h3 : H'.ob = ob') : SOk (A.obs ob') X S H'.size H' := by
  have h4 := h.obs ob' (Nat.le_refl _) (Nat.le_refl _)
  have := h4.same (H' := H') (m' := H'.size) h2 h1 (Nat.le_refl _) h3
  exact this

structure CE where
  p : Nat
  v : Rat
  b : Nat

def ceM (e : CE) : ME := ⟨.int .i64 (e.p : Int), frV e.v, e.b⟩

def CutsOk (L : List CE) (clk : Nat) : Prop := (L.map CE.b).Nodup ∧ (∀ e ∈ L, e.b < clk) ∧ (L.map CE.p).Nodup

def loseB (p : Nat) (v : Rat) (e : CE) : Bool := decide (p ≤ e.p) && decide (v ≤ e.v)

theorem loseB_iff {p : Nat} {v : Rat} {e : CE} : loseB p v e = true ↔ p ≤ e.p ∧ v ≤ e.v := by unfold loseB; rw [Bool.and_eq_true, decide_eq_true_eq, decide_eq_true_eq]

theorem map_inj {α β : Type} {f : α → β} : ∀ {L : List α}, (L.map f).Nodup → ∀ {x y : α}, x ∈ L → y ∈ L → f x = f y → x = y
  | [], _, x, _, h, _, _ => by simp at h
  | a :: L, hn, x, y, hx, hy, he => by
    rw [List.map_cons, List.nodup_cons] at hn
    rcases List.mem_cons.1 hx with h1 | h1 <;> rcases List.mem_cons.1 hy with h2 | h2
    · rw [h1, h2]
    · subst h1; exact absurd (List.mem_map.2 ⟨y, h2, he.symm⟩) hn.1
    · subst h2; exact absurd (List.mem_map.2 ⟨x, h1, he⟩) hn.1
    · exact map_inj hn.2 h1 h2 he

/-- those that lose and have come are out -/
def flC (L : List CE) (p : Nat) (v : Rat) (seen : List Nat) : List CE := L.filter fun e => !(seen.contains e.b && loseB p v e)

theorem flC_nil (L : List CE) (p : Nat) (v : Rat) : flC L p v [] = L := by
  unfold flC; rw [List.filter_eq_self]; intro e _; simp

theorem flC_mem {L : List CE} {p : Nat} {v : Rat} {seen : List Nat} {e : CE} : e ∈ flC L p v seen ↔ e ∈ L ∧ ¬ (e.b ∈ seen ∧ loseB p v e = true) := by
  unfold flC; rw [List.mem_filter]; simp only [Bool.not_eq_true', Bool.and_eq_false_imp, List.contains_iff_mem]
  constructor
  · rintro ⟨h1, h2⟩; exact ⟨h1, fun h => by rw [h2 h.1] at h; exact absurd h.2 (by simp)⟩
  · rintro ⟨h1, h2⟩; refine ⟨h1, fun h => ?_⟩
    cases hb : loseB p v e with
    | false => rfl
    | true => exact absurd ⟨h, hb⟩ h2

theorem flC_sub (L : List CE) (p : Nat) (v : Rat) (seen : List Nat) : (flC L p v seen).Sublist L := List.filter_sublist

theorem CutsOk.sub {L M : List CE} {clk : Nat} (h : CutsOk L clk) (hs : M.Sublist L) : CutsOk M clk := ⟨(hs.map _).nodup h.1, fun e he => h.2.1 e (hs.subset he), (hs.map _).nodup h.2.2⟩

theorem flC_keep {L : List CE} {clk p : Nat} {v : Rat} {seen : List Nat} (hL : CutsOk L clk) {e : CE} (he : e ∈ L) (hl : loseB p v e = false) : flC L p v (seen ++ [e.b]) = flC L p v seen := by
  unfold flC
  apply List.filter_congr
  intro x hx
  by_cases hxe : x.b = e.b
  · obtain rfl := map_inj hL.1 hx he hxe
    simp [hl]
  · have : (seen ++ [e.b]).contains x.b = seen.contains x.b := by
      rw [Bool.eq_iff_iff, List.contains_iff_mem, List.contains_iff_mem, List.mem_append, List.mem_singleton]
      exact ⟨fun h => h.resolve_right hxe, .inl⟩
    rw [this]

theorem erase_filter : ∀ {L : List CE} {j : Nat} {e : CE}, (L.map CE.b).Nodup → L[j]? = some e → L.eraseIdx j = L.filter fun x => decide (x.b ≠ e.b)
  | [], j, e, _, h => by simp at h
  | a :: L, 0, e, hn, h => by
    rw [List.map_cons, List.nodup_cons] at hn
    simp only [List.getElem?_cons_zero, Option.some.injEq] at h; subst h
    rw [List.eraseIdx_cons_zero, List.filter_cons]
    simp only [ne_eq, not_true_eq_false, decide_false, Bool.false_eq_true, if_false]
    symm
    rw [List.filter_eq_self]
    intro x hx
    rw [decide_eq_true_eq]
    exact fun h => hn.1 (List.mem_map.2 ⟨x, hx, h⟩)
  | a :: L, j + 1, e, hn, h => by
    rw [List.map_cons, List.nodup_cons] at hn
    rw [List.getElem?_cons_succ] at h
    have hm : e ∈ L := List.mem_of_getElem? h
    have : a.b ≠ e.b := fun h => hn.1 (List.mem_map.2 ⟨e, hm, h.symm⟩)
    rw [List.eraseIdx_cons_succ, List.filter_cons, erase_filter hn.2 h]
    simp only [this, ne_eq, not_false_eq_true, decide_true, if_true]

theorem flC_erase {L : List CE} {clk p : Nat} {v : Rat} {seen : List Nat} (hL : CutsOk L clk) {e : CE} {j : Nat} (he : (flC L p v seen)[j]? = some e) (hl : loseB p v e = true) : (flC L p v seen).eraseIdx j = flC L p v (seen ++ [e.b]) := by
  rw [erase_filter (hL.sub (flC_sub _ _ _ _)).1 he]
  have hm := (flC_sub L p v seen).subset (List.mem_of_getElem? he)
  unfold flC
  rw [List.filter_filter]
  apply List.filter_congr
  intro x hx
  by_cases hxe : x.b = e.b
  · obtain rfl := map_inj hL.1 hx hm hxe
    simp [hl]
  · have : (seen ++ [e.b]).contains x.b = seen.contains x.b := by
      rw [Bool.eq_iff_iff, List.contains_iff_mem, List.contains_iff_mem, List.mem_append, List.mem_singleton]
      exact ⟨fun h => h.resolve_right hxe, .inl⟩
    rw [this]
    simp [hxe]

theorem flC_end {L : List CE} {p : Nat} {v : Rat} {seen : List Nat} (h : ∀ e ∈ flC L p v seen, e.b ∈ seen) : flC L p v seen = L.filter fun e => !loseB p v e := by
  unfold flC
  apply List.filter_congr
  intro x hx
  cases hl : loseB p v x with
  | false => simp
  | true =>
    by_cases hs : x.b ∈ seen
    · simp [hs]
    · exact absurd (h x (flC_mem.2 ⟨hx, fun h => hs h.1⟩)) hs

theorem findA_at : ∀ {L : List CE} {j : Nat} {e : CE} (i : Nat), (L.map CE.p).Nodup → L[j]? = some e → findA false (.int .i64 (e.p : Int)) (L.map ceM) i = some (some (i + j, frV e.v))
  | [], j, e, _, _, h => by simp at h
  | a :: L, 0, e, i, hn, h => by
    simp only [List.getElem?_cons_zero, Option.some.injEq] at h; subst h
    simp [findA, ceM, sameA]
  | a :: L, j + 1, e, i, hn, h => by
    rw [List.map_cons, List.nodup_cons] at hn
    rw [List.getElem?_cons_succ] at h
    have hm : e ∈ L := List.mem_of_getElem? h
    have hne : a.p ≠ e.p := fun h => hn.1 (List.mem_map.2 ⟨e, hm, h.symm⟩)
    have : (((e.p : Nat) : Int) == ((a.p : Nat) : Int)) = false := by rw [beq_eq_false_iff_ne]; omega
    simp only [List.map_cons, findA, ceM, sameA, and_self, if_true, this]
    rw [show i + (j + 1) = i + 1 + j by omega]
    exact findA_at (i + 1) hn.2 h

theorem findA_no : ∀ {L : List CE} {p : Nat} (i : Nat), (∀ e ∈ L, e.p ≠ p) → findA false (.int .i64 (p : Int)) (L.map ceM) i = some none
  | [], p, _, _ => rfl
  | a :: L, p, i, h => by
    have hne := h a (by simp)
    have : (((p : Nat) : Int) == ((a.p : Nat) : Int)) = false := by rw [beq_eq_false_iff_ne]; omega
    simp only [List.map_cons, findA, ceM, sameA, and_self, if_true, this]
    exact findA_no (i + 1) fun e he => h e (by simp [he])

/-- the stamps that have come -/
def GoneC (L : List CE) (seen : List Nat) : Prop := seen.Nodup ∧ ∀ b ∈ seen, b ∈ L.map CE.b

theorem GoneC.nil (L : List CE) : GoneC L [] := ⟨List.nodup_nil, by simp⟩

theorem GoneC.le {L : List CE} {seen : List Nat} (h : GoneC L seen) : seen.length ≤ L.length := by
  have := h.1.length_le_of_subset (fun b hb => h.2 b hb : seen ⊆ L.map CE.b)
  rwa [List.length_map] at this

theorem GoneC.snoc {L : List CE} {seen : List Nat} (h : GoneC L seen) {e : CE} (he : e ∈ L) (hn : e.b ∉ seen) : GoneC L (seen ++ [e.b]) := by
  refine ⟨?_, fun b hb => ?_⟩
  · rw [List.nodup_append]
    exact ⟨h.1, by simp, fun a ha b hb => by simp only [List.mem_singleton] at hb; subst hb; exact fun h => hn (h ▸ ha)⟩
  · rcases List.mem_append.1 hb with hb | hb
    · exact h.2 b hb
    · simp only [List.mem_singleton] at hb; subst hb; exact List.mem_map.2 ⟨e, he, rfl⟩

theorem GoneC.lt {L : List CE} {seen : List Nat} (h : GoneC L seen) {e : CE} (he : e ∈ L) (hn : e.b ∉ seen) : L.length - (seen ++ [e.b]).length < L.length - seen.length := by
  have := (h.snoc he hn).le
  rw [List.length_append, List.length_singleton] at this ⊢
  omega

/-- what is kept when a way is offered -/
def KpC (L : List CE) (p : Nat) (v : Rat) (L' : List CE) : Prop := ((∃ e ∈ L, e.p ≤ p ∧ e.v ≤ v) ∧ L' = L) ∨ ((∀ e ∈ L, ¬ (e.p ≤ p ∧ e.v ≤ v)) ∧ ∃ b, L' = (L.filter fun e => !loseB p v e) ++ [⟨p, v, b⟩])

/-- the ways that are not beaten, of some -/
def FrontC (L : List CE) (S : Nat → Rat → Prop) : Prop := (∀ e ∈ L, S e.p e.v) ∧ (∀ p v, S p v → ∃ e ∈ L, e.p ≤ p ∧ e.v ≤ v) ∧ ∀ e ∈ L, ∀ e' ∈ L, e.p < e'.p → e'.v < e.v

theorem FrontC.keep {L L' : List CE} {S : Nat → Rat → Prop} {p : Nat} {v : Rat} (h : FrontC L S) (hk : KpC L p v L') : FrontC L' (fun q w => S q w ∨ (q = p ∧ w = v)) := by
  obtain ⟨h1, h2, h3⟩ := h
  rcases hk with ⟨⟨e, k1, k2⟩, rfl⟩ | ⟨k, b, rfl⟩
  · refine ⟨fun e he => .inl (h1 e he), fun q w hq => ?_, h3⟩
    rcases hq with hq | ⟨rfl, rfl⟩
    · exact h2 q w hq
    · exact ⟨e, k1, k2⟩
  · have hin : ∀ {e : CE}, e ∈ (L.filter fun e => !loseB p v e) ++ [⟨p, v, b⟩] → (e ∈ L ∧ ¬ (p ≤ e.p ∧ v ≤ e.v)) ∨ e = ⟨p, v, b⟩ := fun {e} he => by
      rcases List.mem_append.1 he with he | he
      · obtain ⟨g1, g2⟩ := List.mem_filter.1 he
        exact .inl ⟨g1, fun g => by rw [loseB_iff.2 g] at g2; cases g2⟩
      · exact .inr (List.mem_singleton.1 he)
    refine ⟨fun e he => ?_, fun q w hq => ?_, fun e he e' he' hlt => ?_⟩
    · rcases hin he with ⟨g, _⟩ | rfl
      · exact .inl (h1 e g)
      · exact .inr ⟨rfl, rfl⟩
    · rcases hq with hq | ⟨rfl, rfl⟩
      · obtain ⟨e, g1, g2, g3⟩ := h2 q w hq
        by_cases hl : p ≤ e.p ∧ v ≤ e.v
        · exact ⟨⟨p, v, b⟩, by simp, Nat.le_trans hl.1 g2, Rat.le_trans hl.2 g3⟩
        · refine ⟨e, List.mem_append_left _ (List.mem_filter.2 ⟨g1, ?_⟩), g2, g3⟩
          cases hb : loseB p v e with
          | false => rfl
          | true => exact absurd (loseB_iff.1 hb) hl
      · exact ⟨⟨q, w, b⟩, by simp, Nat.le_refl _, Rat.le_refl⟩
    · rcases hin he with ⟨g, g0⟩ | rfl <;> rcases hin he' with ⟨g', g0'⟩ | rfl
      · exact h3 e g e' g' hlt
      · have := k e g
        simp only at hlt ⊢
        exact Rat.not_le.1 fun hc => this ⟨by omega, hc⟩
      · simp only at hlt ⊢
        exact Rat.not_le.1 fun hc => g0' ⟨by omega, hc⟩
      · simp only at hlt; omega

theorem CutsOk.keep {L : List CE} {clk p : Nat} {v : Rat} (hL : CutsOk L clk) (hn : ∀ e ∈ L, ¬ (e.p ≤ p ∧ e.v ≤ v)) : CutsOk ((L.filter fun e => !loseB p v e) ++ [⟨p, v, clk⟩]) (clk + 1) ∧ ∀ e ∈ L.filter fun e => !loseB p v e, e.p ≠ p := by
  have hs : (L.filter fun e => !loseB p v e).Sublist L := List.filter_sublist
  have h0 := hL.sub hs
  have key : ∀ e ∈ L.filter fun e => !loseB p v e, e.p ≠ p := fun e he hp => by
    obtain ⟨g1, g2⟩ := List.mem_filter.1 he
    have h1 : ¬ e.v ≤ v := fun g => hn e g1 ⟨by omega, g⟩
    have h2 : loseB p v e = true := loseB_iff.2 ⟨by omega, Rat.le_of_lt (Rat.not_le.1 h1)⟩
    rw [h2] at g2; cases g2
  refine ⟨⟨?_, fun e he => ?_, ?_⟩, key⟩
  · rw [List.map_append, List.nodup_append]
    refine ⟨h0.1, by simp, fun a ha b hb => ?_⟩
    obtain ⟨e, g1, rfl⟩ := List.mem_map.1 ha
    simp only [List.map_cons, List.map_nil, List.mem_singleton] at hb; subst hb
    have := h0.2.1 e g1
    omega
  · rcases List.mem_append.1 he with he | he
    · have := h0.2.1 e he; omega
    · rw [List.mem_singleton] at he; subst he; simp
  · rw [List.map_append, List.nodup_append]
    refine ⟨h0.2.2, by simp, fun a ha b hb => ?_⟩
    obtain ⟨e, g1, rfl⟩ := List.mem_map.1 ha
    simp only [List.map_cons, List.map_nil, List.mem_singleton] at hb; subst hb
    exact key e g1

theorem go_nxC {P : Program} {A : Heap} {X : List Nat} {E : List (Nat × AV)} {S : Sig} {r : List MI} {K : St → Prop} {ob : Nat → Option OB} {d it m last clk : Nat} {seen : List Nat} {x : MX} {L : List CE} (hx : evE E x = some (.ptr it 0)) (hi : ItO ob it m clk seen last) (hm : MpO ob m (L.map ceM) clk) (hL : CutsOk L clk)
    (h2 : clk ≤ last) (h3 : (∀ e ∈ L, e.b ∈ seen) → GO P (A.obs ob) X ((d, .tuple [.bool false]) :: E) S r K)
    (h4 : ∀ e ∈ L, e.b ∉ seen → GO P (A.obs (seo ob it (obM (.iter m clk (seen ++ [e.b]) clk)))) X ((d, .tuple [.bool true, .int .i64 (e.p : Int), frV e.v]) :: E) S r K) : GO P (A.obs ob) X E S (⟨some d, none, .mq (.nx x)⟩ :: r) K := by
  refine go_nx hx hi hm (fun e he => ?_) h2 (fun hend => h3 fun e he => hend (ceM e) (List.mem_map.2 ⟨e, he, rfl⟩)) (fun e he hn => ?_)
  · obtain ⟨y, hy, rfl⟩ := List.mem_map.1 he
    exact hL.2.1 y hy
  · obtain ⟨y, hy, rfl⟩ := List.mem_map.1 he
    exact h4 y hy hn

theorem go_enC {P : Program} {A : Heap} {X : List Nat} {E : List (Nat × AV)} {S : Sig} {r : List MI} {K : St → Prop} {ob : Nat → Option OB} {d it m since clk : Nat} {seen : List Nat} {x : MX} {L : List CE} {e : CE} (hx : evE E x = some (.ptr it 0)) (hi : ItO ob it m since (seen ++ [e.b]) clk) (hm : MpO ob m (L.map ceM) clk) (hL : CutsOk L clk)
    (he : e ∈ L) (hk : GO P (A.obs ob) X ((d, .tuple [.int .i64 (e.p : Int), frV e.v]) :: E) S r K) : GO P (A.obs ob) X E S (⟨some d, none, .mq (.en x)⟩ :: r) K := by
  refine go_en (e := ceM e) hx hi hm (List.mem_map.2 ⟨e, he, rfl⟩) ?_ hk
  rw [List.map_map]
  exact hL.1

theorem cmR_le {p q : Rat} : cmR p q ≤ 0 ↔ p ≤ q := by
  rw [← Rat.not_lt, ← cmR_pos]; omega

theorem cmR_ge {p q : Rat} : 0 ≤ cmR p q ↔ q ≤ p := by
  rw [← Rat.not_lt, ← cmR_neg]; omega

theorem erase_map {α β : Type} {f : α → β} : ∀ {L : List α} {j : Nat}, (L.map f).eraseIdx j = (L.eraseIdx j).map f
  | [], _ => rfl
  | a :: L, 0 => rfl
  | a :: L, j + 1 => by rw [List.map_cons, List.eraseIdx_cons_succ, List.eraseIdx_cons_succ, List.map_cons, erase_map]

theorem keep_ok {H : Heap} {m0 clk p : Nat} {L : List CE} {v : Rat} (hm : MpO H.ob m0 (L.map ceM) clk) (hL : CutsOk L clk) (hp : p ≤ 1000) (hLp : ∀ e ∈ L, e.p ≤ 1000) (hf : ∀ e ∈ L, FitA e.v v) :
    ACalls Try.prog fn_impl_cuts_keep [.map m0, .int .i64 (p : Int), frV v] H fun r H' => r = .tuple [] ∧ (H.size ≤ H'.size ∧ ∀ i, i < H.size → H'.get i = H.get i) ∧ (∀ j, j ≠ m0 → H'.ob j = H.ob j) ∧ ∃ L' clk', MpO H'.ob m0 (L'.map ceM) clk' ∧ CutsOk L' clk' ∧ KpC L p v L' := by
  refine acalls_obs (R := fun r H' => r = .tuple [] ∧ ∃ ob, SOk (H.obs ob) [] [] H'.size H' ∧ ExO H.ob ob [m0] ∧ ∃ L' clk', MpO ob m0 (L'.map ceM) clk' ∧ CutsOk L' clk' ∧ KpC L p v L') ?_ ?_
  rotate_left
  · rintro r H' ⟨rfl, ob, h1, h2, L', clk', h3, h4, h5⟩
    have hob : H'.ob = ob := h1.le.ob
    refine ⟨fun j => if j = m0 then ob m0 else H.ob j, ⟨rfl, ⟨h1.le.size, fun i hi => h1.le.get i hi (by simp)⟩, fun j hj => by simp [hj], L', clk', mp_eq h3 (by simp), h4, h5⟩, fun i o hi => ?_⟩
    rw [hob]
    by_cases e : i = m0
    · subst e; simpa using hi
    · simp only [e, if_false] at hi; exact h2 i o (by simpa using e) hi
  refine code_impl_cuts_keep.go [] trivial (by simp) ?_
  unfold mc_impl_cuts_keep
  change GC Try.prog (H.obs H.ob) [] _ _ _ _
  (repeat (first | refine gst (hk := ?_) | (show GO _ _ _ _ _ (⟨some _, none, _⟩ :: _) _; first | refine go_op (hk := ?_) | (refine go_nw (hk := ?_); intro u; try simp only [llc, lln, lna, lza]) | (refine go_np (hk := ?_); intro id)) | (show GO _ _ _ _ _ (⟨none, none, _⟩ :: _) _; refine go_st (hk := ?_)) | (show GO _ _ _ _ _ (⟨_, some _, _⟩ :: _) _; first | refine go_in (hk := ?_) | refine go_out (hk := ?_) | refine go_void (hk := ?_)) | (show GK _ _ _ _ (blockK _ _ _); refine gk_past rfl ?_) | (show GC _ _ _ _ _ (.cond _ _ _) _; first | refine gc_yes (h1 := ?_) | refine gc_no (h1 := ?_))))
  revert id; intro i5
  refine go_rg rfl hm (fun it hit => ?_)
  have x0 : H.ob it = none := hit
  (repeat (first | refine gst (hk := ?_) | (show GO _ _ _ _ _ (⟨some _, none, _⟩ :: _) _; first | refine go_op (hk := ?_) | (refine go_nw (hk := ?_); intro u; try simp only [llc, lln, lna, lza]) | (refine go_np (hk := ?_); intro id)) | (show GO _ _ _ _ _ (⟨none, none, _⟩ :: _) _; refine go_st (hk := ?_)) | (show GO _ _ _ _ _ (⟨_, some _, _⟩ :: _) _; first | refine go_in (hk := ?_) | refine go_out (hk := ?_) | refine go_void (hk := ?_)) | (show GK _ _ _ _ (blockK _ _ _); refine gk_past rfl ?_) | (show GC _ _ _ _ _ (.cond _ _ _) _; first | refine gc_yes (h1 := ?_) | refine gc_no (h1 := ?_))))
  refine gc_loopA (γ := (Nat → Option OB) × List Nat × Nat) (fun g => g.1) (fun g => [(0, .map m0), (1, .int .i64 (p : Int)), (5, .ptr i5 0), (11, .ptr it 0)]) (fun _ => [celF i5 v])
    (fun g => MpO g.1 m0 (L.map ceM) clk ∧ ItO g.1 it m0 clk g.2.1 g.2.2 ∧ clk ≤ g.2.2 ∧ ExO H.ob g.1 [m0] ∧ GoneC L g.2.1 ∧ ∀ e ∈ L, e.b ∈ g.2.1 → ¬ (e.p ≤ p ∧ e.v ≤ v)) (fun g => L.length - g.2.1.length) (seo H.ob it (obM (.iter m0 clk [] clk)), [], clk)
    ⟨mp_other hm (mp_fresh hm hit), it_same, Nat.le_refl _, (ExO.refl _ _).new hit _, GoneC.nil L, fun e _ h => by simp at h⟩ (by (repeat (refine Cov.cons (by exact rfl) ?_)); exact Cov.nil) (by exact Sub.auto) ?_
  rintro ⟨ob, seen, last⟩ ⟨g1, g2, g3, g4, g5, g6⟩ I ν mm hk
  dsimp only at g1 g2 g3 g4 g5 g6 hk ⊢
  (repeat (first | refine gst (hk := ?_) | (show GO _ _ _ _ _ (⟨some _, none, _⟩ :: _) _; first | refine go_op (hk := ?_) | (refine go_nw (hk := ?_); intro u; try simp only [llc, lln, lna, lza]) | (refine go_np (hk := ?_); intro id)) | (show GO _ _ _ _ _ (⟨none, none, _⟩ :: _) _; refine go_st (hk := ?_)) | (show GO _ _ _ _ _ (⟨_, some _, _⟩ :: _) _; first | refine go_in (hk := ?_) | refine go_out (hk := ?_) | refine go_void (hk := ?_)) | (show GK _ _ _ _ (blockK _ _ _); refine gk_past rfl ?_) | (show GC _ _ _ _ _ (.cond _ _ _) _; first | refine gc_yes (h1 := ?_) | refine gc_no (h1 := ?_))))
  refine go_nxC rfl g2 g1 hL g3 (fun hend => ?_) (fun x hx hn => ?_)
  · have hall : ∀ e ∈ L, ¬ (e.p ≤ p ∧ e.v ≤ v) := fun e he => g6 e he (hend e he)
    obtain ⟨hL', hnk⟩ := hL.keep hall
    (repeat (first | refine gst (hk := ?_) | (show GO _ _ _ _ _ (⟨some _, none, _⟩ :: _) _; first | refine go_op (hk := ?_) | (refine go_nw (hk := ?_); intro u; try simp only [llc, lln, lna, lza]) | (refine go_np (hk := ?_); intro id)) | (show GO _ _ _ _ _ (⟨none, none, _⟩ :: _) _; refine go_st (hk := ?_)) | (show GO _ _ _ _ _ (⟨_, some _, _⟩ :: _) _; first | refine go_in (hk := ?_) | refine go_out (hk := ?_) | refine go_void (hk := ?_)) | (show GK _ _ _ _ (blockK _ _ _); refine gk_past rfl ?_) | (show GC _ _ _ _ _ (.cond _ _ _) _; first | refine gc_yes (h1 := ?_) | refine gc_no (h1 := ?_))))
    refine go_rg rfl g1 (fun it2 hit2 => ?_)
    have hme : it2 ≠ m0 := (mp_fresh g1 hit2).symm
    have x2 : H.ob it2 = none := g4.gone (by simpa using hme) hit2
    (repeat (first | refine gst (hk := ?_) | (show GO _ _ _ _ _ (⟨some _, none, _⟩ :: _) _; first | refine go_op (hk := ?_) | (refine go_nw (hk := ?_); intro u; try simp only [llc, lln, lna, lza]) | (refine go_np (hk := ?_); intro id)) | (show GO _ _ _ _ _ (⟨none, none, _⟩ :: _) _; refine go_st (hk := ?_)) | (show GO _ _ _ _ _ (⟨_, some _, _⟩ :: _) _; first | refine go_in (hk := ?_) | refine go_out (hk := ?_) | refine go_void (hk := ?_)) | (show GK _ _ _ _ (blockK _ _ _); refine gk_past rfl ?_) | (show GC _ _ _ _ _ (.cond _ _ _) _; first | refine gc_yes (h1 := ?_) | refine gc_no (h1 := ?_))))
    refine gc_loopA (γ := (Nat → Option OB) × List Nat × Nat) (fun g => g.1) (fun g => [(0, .map m0), (1, .int .i64 (p : Int)), (5, .ptr i5 0), (27, .ptr it2 0)]) (fun _ => [celF i5 v])
      (fun g => MpO g.1 m0 ((flC L p v g.2.1).map ceM) clk ∧ ItO g.1 it2 m0 clk g.2.1 g.2.2 ∧ clk ≤ g.2.2 ∧ ExO H.ob g.1 [m0] ∧ GoneC L g.2.1) (fun g => L.length - g.2.1.length) (seo ob it2 (obM (.iter m0 clk [] clk)), [], clk)
      ⟨by rw [flC_nil]; exact mp_other g1 (mp_fresh g1 hit2), it_same, Nat.le_refl _, g4.new hit2 _, GoneC.nil L⟩ (by (repeat (refine Cov.cons (by exact rfl) ?_)); exact Cov.nil) (by exact Sub.auto) ?_
    rintro ⟨ob', seen', last'⟩ ⟨f1, f2, f3, f4, f5⟩ I' ν' mm' hk'
    dsimp only at f1 f2 f3 f4 f5 hk' ⊢
    have hsub := flC_sub L p v seen'
    have hLs := hL.sub hsub
    (repeat (first | refine gst (hk := ?_) | (show GO _ _ _ _ _ (⟨some _, none, _⟩ :: _) _; first | refine go_op (hk := ?_) | (refine go_nw (hk := ?_); intro u; try simp only [llc, lln, lna, lza]) | (refine go_np (hk := ?_); intro id)) | (show GO _ _ _ _ _ (⟨none, none, _⟩ :: _) _; refine go_st (hk := ?_)) | (show GO _ _ _ _ _ (⟨_, some _, _⟩ :: _) _; first | refine go_in (hk := ?_) | refine go_out (hk := ?_) | refine go_void (hk := ?_)) | (show GK _ _ _ _ (blockK _ _ _); refine gk_past rfl ?_) | (show GC _ _ _ _ _ (.cond _ _ _) _; first | refine gc_yes (h1 := ?_) | refine gc_no (h1 := ?_))))
    refine go_nxC rfl f2 f1 hLs f3 (fun hend2 => ?_) (fun y hy hny => ?_)
    · rw [flC_end hend2] at f1
      (repeat (first | refine gst (hk := ?_) | (show GO _ _ _ _ _ (⟨some _, none, _⟩ :: _) _; first | refine go_op (hk := ?_) | (refine go_nw (hk := ?_); intro u; try simp only [llc, lln, lna, lza]) | (refine go_np (hk := ?_); intro id)) | (show GO _ _ _ _ _ (⟨none, none, _⟩ :: _) _; refine go_st (hk := ?_)) | (show GO _ _ _ _ _ (⟨_, some _, _⟩ :: _) _; first | refine go_in (hk := ?_) | refine go_out (hk := ?_) | refine go_void (hk := ?_)) | (show GK _ _ _ _ (blockK _ _ _); refine gk_past rfl ?_) | (show GC _ _ _ _ _ (.cond _ _ _) _; first | refine gc_yes (h1 := ?_) | refine gc_no (h1 := ?_))))
      refine go_up rfl rfl rfl f1 (findA_no 0 hnk) ?_
      (repeat (first | refine gst (hk := ?_) | (show GO _ _ _ _ _ (⟨some _, none, _⟩ :: _) _; first | refine go_op (hk := ?_) | (refine go_nw (hk := ?_); intro u; try simp only [llc, lln, lna, lza]) | (refine go_np (hk := ?_); intro id)) | (show GO _ _ _ _ _ (⟨none, none, _⟩ :: _) _; refine go_st (hk := ?_)) | (show GO _ _ _ _ _ (⟨_, some _, _⟩ :: _) _; first | refine go_in (hk := ?_) | refine go_out (hk := ?_) | refine go_void (hk := ?_)) | (show GK _ _ _ _ (blockK _ _ _); refine gk_past rfl ?_) | (show GC _ _ _ _ _ (.cond _ _ _) _; first | refine gc_yes (h1 := ?_) | refine gc_no (h1 := ?_))))
      exact gk_retn rfl fun H' hH => ⟨rfl, _, hH.sub Sub.nil, f4.mod (.inr (by simp)) _, (L.filter fun e => !loseB p v e) ++ [⟨p, v, clk⟩], clk + 1, by rw [List.map_append]; exact mp_same, hL', .inr ⟨hall, clk, rfl⟩⟩
    · have hyL := hsub.subset hy
      have ne2 := mp_it f1 f2
      have yp := hLp y hyL
      (repeat (first | refine gst (hk := ?_) | (show GO _ _ _ _ _ (⟨some _, none, _⟩ :: _) _; first | refine go_op (hk := ?_) | (refine go_nw (hk := ?_); intro u; try simp only [llc, lln, lna, lza]) | (refine go_np (hk := ?_); intro id)) | (show GO _ _ _ _ _ (⟨none, none, _⟩ :: _) _; refine go_st (hk := ?_)) | (show GO _ _ _ _ _ (⟨_, some _, _⟩ :: _) _; first | refine go_in (hk := ?_) | refine go_out (hk := ?_) | refine go_void (hk := ?_)) | (show GK _ _ _ _ (blockK _ _ _); refine gk_past rfl ?_) | (show GC _ _ _ _ _ (.cond _ _ _) _; first | refine gc_yes (h1 := ?_) | refine gc_no (h1 := ?_))))
      refine go_enC rfl it_same (mp_other f1 ne2) hLs hy ?_
      (repeat (first | refine gst (hk := ?_) | (show GO _ _ _ _ _ (⟨some _, none, _⟩ :: _) _; first | refine go_op (hk := ?_) | (refine go_nw (hk := ?_); intro u; try simp only [llc, lln, lna, lza]) | (refine go_np (hk := ?_); intro id)) | (show GO _ _ _ _ _ (⟨none, none, _⟩ :: _) _; refine go_st (hk := ?_)) | (show GO _ _ _ _ _ (⟨_, some _, _⟩ :: _) _; first | refine go_in (hk := ?_) | refine go_out (hk := ?_) | refine go_void (hk := ?_)) | (show GK _ _ _ _ (blockK _ _ _); refine gk_past rfl ?_) | (show GC _ _ _ _ _ (.cond _ _ _) _; first | refine gc_yes (h1 := ?_) | refine gc_no (h1 := ?_))))
      have stay : loseB p v y = false → _ := fun hl =>
        hk' (seo ob' it2 (obM (.iter m0 clk (seen' ++ [y.b]) clk)), seen' ++ [y.b], clk) ⟨by rw [flC_keep hL hyL hl]; exact mp_other f1 ne2, it_same, Nat.le_refl _, f4.mod (.inl x2) _, f5.snoc hyL hny⟩ (f5.lt hyL hny)
      have nol : ¬ (p ≤ y.p ∧ v ≤ y.v) → loseB p v y = false := fun h => by
        cases hb : loseB p v y with
        | false => rfl
        | true => exact absurd (loseB_iff.1 hb) h
      refine go_split 36 rfl (fun h1 => ?_) (fun h1 => ?_)
      · (repeat (first | refine gst (hk := ?_) | (show GO _ _ _ _ _ (⟨some _, none, _⟩ :: _) _; first | refine go_op (hk := ?_) | (refine go_nw (hk := ?_); intro u; try simp only [llc, lln, lna, lza]) | (refine go_np (hk := ?_); intro id)) | (show GO _ _ _ _ _ (⟨none, none, _⟩ :: _) _; refine go_st (hk := ?_)) | (show GO _ _ _ _ _ (⟨_, some _, _⟩ :: _) _; first | refine go_in (hk := ?_) | refine go_out (hk := ?_) | refine go_void (hk := ?_)) | (show GK _ _ _ _ (blockK _ _ _); refine gk_past rfl ?_) | (show GC _ _ _ _ _ (.cond _ _ _) _; first | refine gc_yes (h1 := ?_) | refine gc_no (h1 := ?_))))
        refine go_callp rfl code_impl_Frac_compare.callable (fun H hH => implCompare_ok (p := y.v) (q := v) (hf y hyL)) ?_
        (repeat (first | refine gst (hk := ?_) | (show GO _ _ _ _ _ (⟨some _, none, _⟩ :: _) _; first | refine go_op (hk := ?_) | (refine go_nw (hk := ?_); intro u; try simp only [llc, lln, lna, lza]) | (refine go_np (hk := ?_); intro id)) | (show GO _ _ _ _ _ (⟨none, none, _⟩ :: _) _; refine go_st (hk := ?_)) | (show GO _ _ _ _ _ (⟨_, some _, _⟩ :: _) _; first | refine go_in (hk := ?_) | refine go_out (hk := ?_) | refine go_void (hk := ?_)) | (show GK _ _ _ _ (blockK _ _ _); refine gk_past rfl ?_) | (show GC _ _ _ _ _ (.cond _ _ _) _; first | refine gc_yes (h1 := ?_) | refine gc_no (h1 := ?_))))
        refine gc_cond rfl (fun h2 => ?_) (fun h2 => ?_)
        · have hl : loseB p v y = true := loseB_iff.2 ⟨by omega, cmR_ge.1 h2⟩
          obtain ⟨j, hj⟩ := List.mem_iff_getElem?.1 hy
          have hfa := findA_at 0 hLs.2.2 hj
          rw [Nat.zero_add] at hfa
          (repeat (first | refine gst (hk := ?_) | (show GO _ _ _ _ _ (⟨some _, none, _⟩ :: _) _; first | refine go_op (hk := ?_) | (refine go_nw (hk := ?_); intro u; try simp only [llc, lln, lna, lza]) | (refine go_np (hk := ?_); intro id)) | (show GO _ _ _ _ _ (⟨none, none, _⟩ :: _) _; refine go_st (hk := ?_)) | (show GO _ _ _ _ _ (⟨_, some _, _⟩ :: _) _; first | refine go_in (hk := ?_) | refine go_out (hk := ?_) | refine go_void (hk := ?_)) | (show GK _ _ _ _ (blockK _ _ _); refine gk_past rfl ?_) | (show GC _ _ _ _ _ (.cond _ _ _) _; first | refine gc_yes (h1 := ?_) | refine gc_no (h1 := ?_))))
          refine go_dl rfl rfl (mp_other f1 ne2) hfa ?_
          rw [erase_map, flC_erase hL hj hl]
          (repeat (first | refine gst (hk := ?_) | (show GO _ _ _ _ _ (⟨some _, none, _⟩ :: _) _; first | refine go_op (hk := ?_) | (refine go_nw (hk := ?_); intro u; try simp only [llc, lln, lna, lza]) | (refine go_np (hk := ?_); intro id)) | (show GO _ _ _ _ _ (⟨none, none, _⟩ :: _) _; refine go_st (hk := ?_)) | (show GO _ _ _ _ _ (⟨_, some _, _⟩ :: _) _; first | refine go_in (hk := ?_) | refine go_out (hk := ?_) | refine go_void (hk := ?_)) | (show GK _ _ _ _ (blockK _ _ _); refine gk_past rfl ?_) | (show GC _ _ _ _ _ (.cond _ _ _) _; first | refine gc_yes (h1 := ?_) | refine gc_no (h1 := ?_))))
          exact gk_next (hk' (seo (seo ob' it2 (obM (.iter m0 clk (seen' ++ [y.b]) clk))) m0 (obM (.map ((flC L p v (seen' ++ [y.b])).map ceM) clk)), seen' ++ [y.b], clk) ⟨mp_same, it_other it_same ne2.symm, Nat.le_refl _, (f4.mod (.inl x2) _).mod (.inr (by simp)) _, f5.snoc hyL hny⟩ (f5.lt hyL hny))
        · (repeat (first | refine gst (hk := ?_) | (show GO _ _ _ _ _ (⟨some _, none, _⟩ :: _) _; first | refine go_op (hk := ?_) | (refine go_nw (hk := ?_); intro u; try simp only [llc, lln, lna, lza]) | (refine go_np (hk := ?_); intro id)) | (show GO _ _ _ _ _ (⟨none, none, _⟩ :: _) _; refine go_st (hk := ?_)) | (show GO _ _ _ _ _ (⟨_, some _, _⟩ :: _) _; first | refine go_in (hk := ?_) | refine go_out (hk := ?_) | refine go_void (hk := ?_)) | (show GK _ _ _ _ (blockK _ _ _); refine gk_past rfl ?_) | (show GC _ _ _ _ _ (.cond _ _ _) _; first | refine gc_yes (h1 := ?_) | refine gc_no (h1 := ?_))))
          exact gk_next (stay (nol fun h => h2 (cmR_ge.2 h.2)))
      · (repeat (first | refine gst (hk := ?_) | (show GO _ _ _ _ _ (⟨some _, none, _⟩ :: _) _; first | refine go_op (hk := ?_) | (refine go_nw (hk := ?_); intro u; try simp only [llc, lln, lna, lza]) | (refine go_np (hk := ?_); intro id)) | (show GO _ _ _ _ _ (⟨none, none, _⟩ :: _) _; refine go_st (hk := ?_)) | (show GO _ _ _ _ _ (⟨_, some _, _⟩ :: _) _; first | refine go_in (hk := ?_) | refine go_out (hk := ?_) | refine go_void (hk := ?_)) | (show GK _ _ _ _ (blockK _ _ _); refine gk_past rfl ?_) | (show GC _ _ _ _ _ (.cond _ _ _) _; first | refine gc_yes (h1 := ?_) | refine gc_no (h1 := ?_))))
        exact gk_next (stay (nol fun h => by omega))
  · have ne1 := mp_it g1 g2
    have xp := hLp x hx
    have hnext : ¬ (x.p ≤ p ∧ x.v ≤ v) → _ := fun hb =>
      hk (seo ob it (obM (.iter m0 clk (seen ++ [x.b]) clk)), seen ++ [x.b], clk) ⟨mp_other g1 ne1, it_same, Nat.le_refl _, g4.mod (.inl x0) _, g5.snoc hx hn, fun e he hb' => by
        rcases List.mem_append.1 hb' with h | h
        · exact g6 e he h
        · obtain rfl := map_inj hL.1 he hx (List.mem_singleton.1 h)
          exact hb⟩ (g5.lt hx hn)
    (repeat (first | refine gst (hk := ?_) | (show GO _ _ _ _ _ (⟨some _, none, _⟩ :: _) _; first | refine go_op (hk := ?_) | (refine go_nw (hk := ?_); intro u; try simp only [llc, lln, lna, lza]) | (refine go_np (hk := ?_); intro id)) | (show GO _ _ _ _ _ (⟨none, none, _⟩ :: _) _; refine go_st (hk := ?_)) | (show GO _ _ _ _ _ (⟨_, some _, _⟩ :: _) _; first | refine go_in (hk := ?_) | refine go_out (hk := ?_) | refine go_void (hk := ?_)) | (show GK _ _ _ _ (blockK _ _ _); refine gk_past rfl ?_) | (show GC _ _ _ _ _ (.cond _ _ _) _; first | refine gc_yes (h1 := ?_) | refine gc_no (h1 := ?_))))
    refine go_enC rfl it_same (mp_other g1 ne1) hL hx ?_
    (repeat (first | refine gst (hk := ?_) | (show GO _ _ _ _ _ (⟨some _, none, _⟩ :: _) _; first | refine go_op (hk := ?_) | (refine go_nw (hk := ?_); intro u; try simp only [llc, lln, lna, lza]) | (refine go_np (hk := ?_); intro id)) | (show GO _ _ _ _ _ (⟨none, none, _⟩ :: _) _; refine go_st (hk := ?_)) | (show GO _ _ _ _ _ (⟨_, some _, _⟩ :: _) _; first | refine go_in (hk := ?_) | refine go_out (hk := ?_) | refine go_void (hk := ?_)) | (show GK _ _ _ _ (blockK _ _ _); refine gk_past rfl ?_) | (show GC _ _ _ _ _ (.cond _ _ _) _; first | refine gc_yes (h1 := ?_) | refine gc_no (h1 := ?_))))
    refine go_split 20 rfl (fun h1 => ?_) (fun h1 => ?_)
    · (repeat (first | refine gst (hk := ?_) | (show GO _ _ _ _ _ (⟨some _, none, _⟩ :: _) _; first | refine go_op (hk := ?_) | (refine go_nw (hk := ?_); intro u; try simp only [llc, lln, lna, lza]) | (refine go_np (hk := ?_); intro id)) | (show GO _ _ _ _ _ (⟨none, none, _⟩ :: _) _; refine go_st (hk := ?_)) | (show GO _ _ _ _ _ (⟨_, some _, _⟩ :: _) _; first | refine go_in (hk := ?_) | refine go_out (hk := ?_) | refine go_void (hk := ?_)) | (show GK _ _ _ _ (blockK _ _ _); refine gk_past rfl ?_) | (show GC _ _ _ _ _ (.cond _ _ _) _; first | refine gc_yes (h1 := ?_) | refine gc_no (h1 := ?_))))
      refine go_callp rfl code_impl_Frac_compare.callable (fun H hH => implCompare_ok (p := x.v) (q := v) (hf x hx)) ?_
      (repeat (first | refine gst (hk := ?_) | (show GO _ _ _ _ _ (⟨some _, none, _⟩ :: _) _; first | refine go_op (hk := ?_) | (refine go_nw (hk := ?_); intro u; try simp only [llc, lln, lna, lza]) | (refine go_np (hk := ?_); intro id)) | (show GO _ _ _ _ _ (⟨none, none, _⟩ :: _) _; refine go_st (hk := ?_)) | (show GO _ _ _ _ _ (⟨_, some _, _⟩ :: _) _; first | refine go_in (hk := ?_) | refine go_out (hk := ?_) | refine go_void (hk := ?_)) | (show GK _ _ _ _ (blockK _ _ _); refine gk_past rfl ?_) | (show GC _ _ _ _ _ (.cond _ _ _) _; first | refine gc_yes (h1 := ?_) | refine gc_no (h1 := ?_))))
      refine gc_cond rfl (fun h2 => ?_) (fun h2 => ?_)
      · (repeat (first | refine gst (hk := ?_) | (show GO _ _ _ _ _ (⟨some _, none, _⟩ :: _) _; first | refine go_op (hk := ?_) | (refine go_nw (hk := ?_); intro u; try simp only [llc, lln, lna, lza]) | (refine go_np (hk := ?_); intro id)) | (show GO _ _ _ _ _ (⟨none, none, _⟩ :: _) _; refine go_st (hk := ?_)) | (show GO _ _ _ _ _ (⟨_, some _, _⟩ :: _) _; first | refine go_in (hk := ?_) | refine go_out (hk := ?_) | refine go_void (hk := ?_)) | (show GK _ _ _ _ (blockK _ _ _); refine gk_past rfl ?_) | (show GC _ _ _ _ _ (.cond _ _ _) _; first | refine gc_yes (h1 := ?_) | refine gc_no (h1 := ?_))))
        exact gk_ret rfl fun H' hH => ⟨rfl, _, hH.sub Sub.nil, g4.mod (.inl x0) _, L, clk, mp_other g1 ne1, hL, .inl ⟨⟨x, hx, by omega, cmR_le.1 h2⟩, rfl⟩⟩
      · (repeat (first | refine gst (hk := ?_) | (show GO _ _ _ _ _ (⟨some _, none, _⟩ :: _) _; first | refine go_op (hk := ?_) | (refine go_nw (hk := ?_); intro u; try simp only [llc, lln, lna, lza]) | (refine go_np (hk := ?_); intro id)) | (show GO _ _ _ _ _ (⟨none, none, _⟩ :: _) _; refine go_st (hk := ?_)) | (show GO _ _ _ _ _ (⟨_, some _, _⟩ :: _) _; first | refine go_in (hk := ?_) | refine go_out (hk := ?_) | refine go_void (hk := ?_)) | (show GK _ _ _ _ (blockK _ _ _); refine gk_past rfl ?_) | (show GC _ _ _ _ _ (.cond _ _ _) _; first | refine gc_yes (h1 := ?_) | refine gc_no (h1 := ?_))))
        exact gk_next (hnext fun h => h2 (cmR_le.2 h.2))
    · (repeat (first | refine gst (hk := ?_) | (show GO _ _ _ _ _ (⟨some _, none, _⟩ :: _) _; first | refine go_op (hk := ?_) | (refine go_nw (hk := ?_); intro u; try simp only [llc, lln, lna, lza]) | (refine go_np (hk := ?_); intro id)) | (show GO _ _ _ _ _ (⟨none, none, _⟩ :: _) _; refine go_st (hk := ?_)) | (show GO _ _ _ _ _ (⟨_, some _, _⟩ :: _) _; first | refine go_in (hk := ?_) | refine go_out (hk := ?_) | refine go_void (hk := ?_)) | (show GK _ _ _ _ (blockK _ _ _); refine gk_past rfl ?_) | (show GC _ _ _ _ _ (.cond _ _ _) _; first | refine gc_yes (h1 := ?_) | refine gc_no (h1 := ?_))))
      exact gk_next (hnext fun h => by omega)

theorem FrontC.best {L : List CE} {S : Nat → Rat → Prop} (h : FrontC L S) {clk : Nat} (hL : CutsOk L clk) {P : Nat} {e : CE} (he : e ∈ L) (hp : e.p ≤ P) (hm : ∀ x ∈ L, x.p ≤ P → x.p ≤ e.p) : (∃ q, q ≤ P ∧ S q e.v) ∧ ∀ q w, q ≤ P → S q w → e.v ≤ w := by
  obtain ⟨h1, h2, h3⟩ := h
  refine ⟨⟨e.p, hp, h1 e he⟩, fun q w hq hw => ?_⟩
  obtain ⟨x, g1, g2, g3⟩ := h2 q w hw
  have g4 := hm x g1 (by omega)
  rcases Nat.lt_or_ge x.p e.p with g5 | g5
  · exact Rat.le_trans (Rat.le_of_lt (h3 x g1 e he g5)) g3
  · obtain rfl := map_inj hL.2.2 g1 he (by omega)
    exact g3

/-- objects that are not needed any more are forgotten -/
theorem acalls_plain {P : Program} {f : FuncId} {args : List AV} {H : Heap} {R : AV → Prop} (h : ACalls P f args H fun r H' => R r ∧ ∃ ob S, SOk (H.obs ob) [] S H'.size H' ∧ ExO H.ob ob []) (hp : ∀ r, R r → r.plain = true) : ACalls P f args H fun r H' => R r ∧ H' = H := by
  refine ACalls.trace (acalls_obs h ?_) hp
  rintro r H' ⟨hr, ob, S, h1, h2⟩
  have hob : H'.ob = ob := h1.le.ob
  exact ⟨H.ob, ⟨hr, h1.le.size, fun i hi => h1.le.get i hi (by simp), rfl⟩, fun i o hi => by rw [hob]; exact h2 i o (by simp) hi⟩

theorem upTo_ok {H : Heap} {m0 clk P : Nat} {L : List CE} {S : Nat → Rat → Prop} (hm : MpO H.ob m0 (L.map ceM) clk) (hL : CutsOk L clk) (hF : FrontC L S) (hp : P ≤ 1000) (hLp : ∀ e ∈ L, e.p ≤ 1000) (hex : ∃ e ∈ L, e.p ≤ P) :
    ACalls Try.prog fn_impl_cuts_upTo [.map m0, .int .i64 (P : Int)] H fun r H' => (∃ w, r = frV w ∧ (∃ q, q ≤ P ∧ S q w) ∧ ∀ q w', q ≤ P → S q w' → w ≤ w') ∧ H' = H := by
  refine acalls_plain (R := fun r => ∃ w, r = frV w ∧ (∃ q, q ≤ P ∧ S q w) ∧ ∀ q w', q ≤ P → S q w' → w ≤ w') ?_ (by rintro r ⟨w, rfl, _⟩; rfl)
  refine code_impl_cuts_upTo.go [] trivial (by simp) ?_
  unfold mc_impl_cuts_upTo
  change GC Try.prog (H.obs H.ob) [] _ _ _ _
  (repeat (first | refine gst (hk := ?_) | (show GO _ _ _ _ _ (⟨some _, none, _⟩ :: _) _; first | refine go_op (hk := ?_) | (refine go_nw (hk := ?_); intro u; try simp only [llc, lln, lna, lza]) | (refine go_np (hk := ?_); intro id)) | (show GO _ _ _ _ _ (⟨none, none, _⟩ :: _) _; refine go_st (hk := ?_)) | (show GO _ _ _ _ _ (⟨_, some _, _⟩ :: _) _; first | refine go_in (hk := ?_) | refine go_out (hk := ?_) | refine go_void (hk := ?_)) | (show GK _ _ _ _ (blockK _ _ _); refine gk_past rfl ?_) | (show GC _ _ _ _ _ (.cond _ _ _) _; first | refine gc_yes (h1 := ?_) | refine gc_no (h1 := ?_))))
  revert id; intro i4
  refine go_rg rfl hm (fun it hit => ?_)
  have x0 : H.ob it = none := hit
  (repeat (first | refine gst (hk := ?_) | (show GO _ _ _ _ _ (⟨some _, none, _⟩ :: _) _; first | refine go_op (hk := ?_) | (refine go_nw (hk := ?_); intro u; try simp only [llc, lln, lna, lza]) | (refine go_np (hk := ?_); intro id)) | (show GO _ _ _ _ _ (⟨none, none, _⟩ :: _) _; refine go_st (hk := ?_)) | (show GO _ _ _ _ _ (⟨_, some _, _⟩ :: _) _; first | refine go_in (hk := ?_) | refine go_out (hk := ?_) | refine go_void (hk := ?_)) | (show GK _ _ _ _ (blockK _ _ _); refine gk_past rfl ?_) | (show GC _ _ _ _ _ (.cond _ _ _) _; first | refine gc_yes (h1 := ?_) | refine gc_no (h1 := ?_))))
  refine gc_loopA (γ := (Nat → Option OB) × List Nat × Nat × Nat) (fun g => g.1) (fun g => [(0, .map m0), (1, .int .i64 (P : Int)), (4, .ptr i4 0), (5, .int .i64 (g.2.2.2 : Int)), (8, .ptr it 0)]) (fun _ => [cel0 i4])
    (fun g => MpO g.1 m0 (L.map ceM) clk ∧ ItO g.1 it m0 clk g.2.1 g.2.2.1 ∧ clk ≤ g.2.2.1 ∧ ExO H.ob g.1 [] ∧ GoneC L g.2.1 ∧ (∀ e ∈ L, e.b ∈ g.2.1 → e.p ≤ P → e.p ≤ g.2.2.2) ∧ ((g.2.2.2 = 0 ∧ ∀ e ∈ L, e.b ∈ g.2.1 → ¬ e.p ≤ P) ∨ ∃ e ∈ L, e.p = g.2.2.2 ∧ e.p ≤ P)) (fun g => L.length - g.2.1.length) (seo H.ob it (obM (.iter m0 clk [] clk)), [], clk, 0)
    ⟨mp_other hm (mp_fresh hm hit), it_same, Nat.le_refl _, (ExO.refl _ _).new hit _, GoneC.nil L, fun e _ h => by simp at h, .inl ⟨rfl, fun e _ h => by simp at h⟩⟩ (by (repeat (refine Cov.cons (by exact rfl) ?_)); exact Cov.nil) (by exact Sub.auto) ?_
  rintro ⟨ob, seen, last, t⟩ ⟨g1, g2, g3, g4, g5, g6, g7⟩ I ν mm hk
  dsimp only at g1 g2 g3 g4 g5 g6 g7 hk ⊢
  (repeat (first | refine gst (hk := ?_) | (show GO _ _ _ _ _ (⟨some _, none, _⟩ :: _) _; first | refine go_op (hk := ?_) | (refine go_nw (hk := ?_); intro u; try simp only [llc, lln, lna, lza]) | (refine go_np (hk := ?_); intro id)) | (show GO _ _ _ _ _ (⟨none, none, _⟩ :: _) _; refine go_st (hk := ?_)) | (show GO _ _ _ _ _ (⟨_, some _, _⟩ :: _) _; first | refine go_in (hk := ?_) | refine go_out (hk := ?_) | refine go_void (hk := ?_)) | (show GK _ _ _ _ (blockK _ _ _); refine gk_past rfl ?_) | (show GC _ _ _ _ _ (.cond _ _ _) _; first | refine gc_yes (h1 := ?_) | refine gc_no (h1 := ?_))))
  refine go_nxC rfl g2 g1 hL g3 (fun hend => ?_) (fun x hx hn => ?_)
  · obtain ⟨e, k1, k2, k3⟩ : ∃ e ∈ L, e.p = t ∧ e.p ≤ P := by
      rcases g7 with ⟨_, g7⟩ | g7
      · obtain ⟨e, k1, k2⟩ := hex
        exact absurd k2 (g7 e k1 (hend e k1))
      · exact g7
    subst k2
    obtain ⟨j, hj⟩ := List.mem_iff_getElem?.1 k1
    (repeat (first | refine gst (hk := ?_) | (show GO _ _ _ _ _ (⟨some _, none, _⟩ :: _) _; first | refine go_op (hk := ?_) | (refine go_nw (hk := ?_); intro u; try simp only [llc, lln, lna, lza]) | (refine go_np (hk := ?_); intro id)) | (show GO _ _ _ _ _ (⟨none, none, _⟩ :: _) _; refine go_st (hk := ?_)) | (show GO _ _ _ _ _ (⟨_, some _, _⟩ :: _) _; first | refine go_in (hk := ?_) | refine go_out (hk := ?_) | refine go_void (hk := ?_)) | (show GK _ _ _ _ (blockK _ _ _); refine gk_past rfl ?_) | (show GC _ _ _ _ _ (.cond _ _ _) _; first | refine gc_yes (h1 := ?_) | refine gc_no (h1 := ?_))))
    refine go_lk rfl rfl g1 (findA_at 0 hL.2.2 hj) ?_
    (repeat (first | refine gst (hk := ?_) | (show GO _ _ _ _ _ (⟨some _, none, _⟩ :: _) _; first | refine go_op (hk := ?_) | (refine go_nw (hk := ?_); intro u; try simp only [llc, lln, lna, lza]) | (refine go_np (hk := ?_); intro id)) | (show GO _ _ _ _ _ (⟨none, none, _⟩ :: _) _; refine go_st (hk := ?_)) | (show GO _ _ _ _ _ (⟨_, some _, _⟩ :: _) _; first | refine go_in (hk := ?_) | refine go_out (hk := ?_) | refine go_void (hk := ?_)) | (show GK _ _ _ _ (blockK _ _ _); refine gk_past rfl ?_) | (show GC _ _ _ _ _ (.cond _ _ _) _; first | refine gc_yes (h1 := ?_) | refine gc_no (h1 := ?_))))
    exact gk_rets (rvs_c rfl (by exact Sel.auto) rfl rfl rvs_nil) fun H' hH => ⟨⟨e.v, rfl, hF.best hL k1 k3 (fun x hx hxp => g6 x hx (hend x hx) hxp)⟩, _, _, hH, g4⟩
  · have ne1 := mp_it g1 g2
    have xp := hLp x hx
    have tp : t ≤ 1000 := by
      rcases g7 with ⟨g7, _⟩ | ⟨e, k1, k2, k3⟩
      · omega
      · have := hLp e k1; omega
    (repeat (first | refine gst (hk := ?_) | (show GO _ _ _ _ _ (⟨some _, none, _⟩ :: _) _; first | refine go_op (hk := ?_) | (refine go_nw (hk := ?_); intro u; try simp only [llc, lln, lna, lza]) | (refine go_np (hk := ?_); intro id)) | (show GO _ _ _ _ _ (⟨none, none, _⟩ :: _) _; refine go_st (hk := ?_)) | (show GO _ _ _ _ _ (⟨_, some _, _⟩ :: _) _; first | refine go_in (hk := ?_) | refine go_out (hk := ?_) | refine go_void (hk := ?_)) | (show GK _ _ _ _ (blockK _ _ _); refine gk_past rfl ?_) | (show GC _ _ _ _ _ (.cond _ _ _) _; first | refine gc_yes (h1 := ?_) | refine gc_no (h1 := ?_))))
    refine go_enC rfl it_same (mp_other g1 ne1) hL hx ?_
    (repeat (first | refine gst (hk := ?_) | (show GO _ _ _ _ _ (⟨some _, none, _⟩ :: _) _; first | refine go_op (hk := ?_) | (refine go_nw (hk := ?_); intro u; try simp only [llc, lln, lna, lza]) | (refine go_np (hk := ?_); intro id)) | (show GO _ _ _ _ _ (⟨none, none, _⟩ :: _) _; refine go_st (hk := ?_)) | (show GO _ _ _ _ _ (⟨_, some _, _⟩ :: _) _; first | refine go_in (hk := ?_) | refine go_out (hk := ?_) | refine go_void (hk := ?_)) | (show GK _ _ _ _ (blockK _ _ _); refine gk_past rfl ?_) | (show GC _ _ _ _ _ (.cond _ _ _) _; first | refine gc_yes (h1 := ?_) | refine gc_no (h1 := ?_))))
    refine gc_cond rfl (fun h1 => ?_) (fun h1 => ?_)
    · (repeat (first | refine gst (hk := ?_) | (show GO _ _ _ _ _ (⟨some _, none, _⟩ :: _) _; first | refine go_op (hk := ?_) | (refine go_nw (hk := ?_); intro u; try simp only [llc, lln, lna, lza]) | (refine go_np (hk := ?_); intro id)) | (show GO _ _ _ _ _ (⟨none, none, _⟩ :: _) _; refine go_st (hk := ?_)) | (show GO _ _ _ _ _ (⟨_, some _, _⟩ :: _) _; first | refine go_in (hk := ?_) | refine go_out (hk := ?_) | refine go_void (hk := ?_)) | (show GK _ _ _ _ (blockK _ _ _); refine gk_past rfl ?_) | (show GC _ _ _ _ _ (.cond _ _ _) _; first | refine gc_yes (h1 := ?_) | refine gc_no (h1 := ?_))))
      have hk1 := hk (seo ob it (obM (.iter m0 clk (seen ++ [x.b]) clk)), seen ++ [x.b], clk, max t x.p)
      dsimp only at hk1
      refine gk_next (hk1 ⟨mp_other g1 ne1, it_same, Nat.le_refl _, g4.mod (.inl x0) _, g5.snoc hx hn, fun e he hb hp => ?_, ?_⟩ (g5.lt hx hn))
      · rcases List.mem_append.1 hb with h | h
        · have := g6 e he h hp; omega
        · obtain rfl := map_inj hL.1 he hx (List.mem_singleton.1 h)
          omega
      · refine .inr ?_
        rcases g7 with ⟨g7, _⟩ | ⟨e, k1, k2, k3⟩
        · exact ⟨x, hx, by omega, by omega⟩
        · rcases Nat.le_total t x.p with h | h
          · exact ⟨x, hx, by omega, by omega⟩
          · exact ⟨e, k1, by omega, k3⟩
    · (repeat (first | refine gst (hk := ?_) | (show GO _ _ _ _ _ (⟨some _, none, _⟩ :: _) _; first | refine go_op (hk := ?_) | (refine go_nw (hk := ?_); intro u; try simp only [llc, lln, lna, lza]) | (refine go_np (hk := ?_); intro id)) | (show GO _ _ _ _ _ (⟨none, none, _⟩ :: _) _; refine go_st (hk := ?_)) | (show GO _ _ _ _ _ (⟨_, some _, _⟩ :: _) _; first | refine go_in (hk := ?_) | refine go_out (hk := ?_) | refine go_void (hk := ?_)) | (show GK _ _ _ _ (blockK _ _ _); refine gk_past rfl ?_) | (show GC _ _ _ _ _ (.cond _ _ _) _; first | refine gc_yes (h1 := ?_) | refine gc_no (h1 := ?_))))
      refine gk_next (hk (seo ob it (obM (.iter m0 clk (seen ++ [x.b]) clk)), seen ++ [x.b], clk, t) ⟨mp_other g1 ne1, it_same, Nat.le_refl _, g4.mod (.inl x0) _, g5.snoc hx hn, fun e he hb hp => ?_, ?_⟩ (g5.lt hx hn))
      · rcases List.mem_append.1 hb with h | h
        · exact g6 e he h hp
        · obtain rfl := map_inj hL.1 he hx (List.mem_singleton.1 h)
          omega
      · rcases g7 with ⟨g7, g8⟩ | g7
        · refine .inl ⟨g7, fun e he hb hp => ?_⟩
          rcases List.mem_append.1 hb with h | h
          · exact g8 e he h hp
          · obtain rfl := map_inj hL.1 he hx (List.mem_singleton.1 h)
            omega
        · exact .inr g7

def SC (c : Nat → Nat → Rat) (i q : Nat) (v : Rat) : Prop := (i = 0 ∧ q = 0 ∧ v = 0) ∨ Cuts (· + ·) c q 0 i v

def TC (c : Nat → Nat → Rat) (i e q : Nat) (v : Rat) : Prop := ∃ s, s < i ∧ ∃ q' v', SC c s q' v' ∧ q = q' + 1 ∧ v = v' + c s e

theorem TC.sc {c : Nat → Nat → Rat} {i e q : Nat} {v : Rat} (h : TC c i e q v) (hi : i ≤ e) : SC c e q v := by
  obtain ⟨s, h1, q', v', h2, rfl, rfl⟩ := h
  refine .inr ?_
  rcases h2 with ⟨rfl, rfl, rfl⟩ | h2
  · rw [Rat.zero_add]; exact .one (by omega)
  · exact .snoc h2 (by omega)

theorem SC.tc {c : Nat → Nat → Rat} {e q : Nat} {v : Rat} (h : SC c e q v) (he : 1 ≤ e) : TC c e e q v := by
  rcases h with ⟨rfl, _, _⟩ | h
  · omega
  · cases h with
    | one h => exact ⟨0, he, 0, 0, .inl ⟨rfl, rfl, rfl⟩, rfl, by rw [Rat.zero_add]⟩
    | snoc h hk => exact ⟨_, hk, _, _, .inr h, rfl, rfl⟩

theorem FrontC.weaken {L : List CE} {S S' : Nat → Rat → Prop} (h : FrontC L S) (h1 : ∀ q v, S q v → S' q v) (h2 : ∀ q v, S' q v → ∃ q0 v0, S q0 v0 ∧ q0 ≤ q ∧ v0 ≤ v) : FrontC L S' := by
  obtain ⟨g1, g2, g3⟩ := h
  refine ⟨fun e he => h1 _ _ (g1 e he), fun q v hq => ?_, g3⟩
  obtain ⟨q0, v0, k1, k2, k3⟩ := h2 q v hq
  obtain ⟨e, m1, m2, m3⟩ := g2 q0 v0 k1
  exact ⟨e, m1, by omega, Rat.le_trans m3 k3⟩

theorem FrontC.same {L : List CE} {S S' : Nat → Rat → Prop} (h : FrontC L S) (h1 : ∀ q v, S q v ↔ S' q v) : FrontC L S' := h.weaken (fun q v => (h1 q v).1) (fun q v hq => ⟨q, v, (h1 q v).2 hq, Nat.le_refl _, Rat.le_refl⟩)

def GoodM (c : Nat → Nat → Rat) (ob : Nat → Option OB) (m i : Nat) : Prop := ∃ L clk, MpO ob m (L.map ceM) clk ∧ CutsOk L clk ∧ FrontC L (SC c i)

theorem GoodM.seo {c : Nat → Nat → Rat} {ob : Nat → Option OB} {m i id : Nat} {o : OB} (h : GoodM c ob m i) (hn : m ≠ id) : GoodM c (seo ob id o) m i := by
  obtain ⟨L, clk, h1, h2⟩ := h
  exact ⟨L, clk, mp_other h1 hn, h2⟩

theorem GoodM.eq {c : Nat → Nat → Rat} {ob ob' : Nat → Option OB} {m i : Nat} (h : GoodM c ob m i) (hn : ob' m = ob m) : GoodM c ob' m i := by
  obtain ⟨L, clk, h1, h2⟩ := h
  exact ⟨L, clk, mp_eq h1 hn, h2⟩

theorem nthV_map {ms : List Nat} {i m : Nat} (h : ms[i]? = some m) : nthV (ms.map AV.map) i = .map m := by
  have hi := (List.getElem?_eq_some_iff.1 h).1
  rw [show nthV (ms.map AV.map) i = (ms.map AV.map)[i]'(by rw [List.length_map]; exact hi) from nthA_of _]
  simp [(List.getElem?_eq_some_iff.1 h).2]

theorem fd_zero {D B : Int} (hD : 0 < D) (hB : 0 ≤ B) : FD 0 D B := ⟨hD, 0, by rw [Rat.zero_mul]; rfl, by omega, hB⟩

theorem go_callO {P : Program} {A : Heap} {X : List Nat} {E : List (Nat × AV)} {S : Sig} {r : List MI} {K : St → Prop} {ob : Nat → Option OB} {d : Nat} {f : FuncId} {args : List MX} {vs : List AV} {v : AV} {Φ : (Nat → Option OB) → Prop} (ha : evsE E args = some vs) (hc : Callable P f)
    (h : ∀ H, SOk (A.obs ob) X S H.size H → ACalls P f vs H fun r H' => r = v ∧ (H.size ≤ H'.size ∧ ∀ i, i < H.size → H'.get i = H.get i) ∧ Φ H'.ob) (hk : ∀ ob', Φ ob' → GO P (A.obs ob') X ((d, v) :: E) S r K) : GO P (A.obs ob) X E S (⟨some d, none, .call f args⟩ :: r) K :=
  go_callA (γ := Nat → Option OB) (O := fun g => g) (V := fun _ => v) (T := fun _ => S) (Φ := Φ) ha hc (fun H hH => (h H hH).mono fun r H' ⟨h1, h2, h3⟩ => ⟨H'.ob, h1, sok_leO hH h2.1 h2.2 rfl, h3⟩) hk

theorem it_eq {ob ob' : Nat → Option OB} {id m since last : Nat} {seen : List Nat} (h : ItO ob id m since seen last) (he : ob' id = ob id) : ItO ob' id m since seen last := by
  obtain ⟨x, h1, h2⟩ := h
  exact ⟨x, by rw [he]; exact h1, h2⟩

theorem ExO.eq {ob0 ob ob' : Nat → Option OB} {I : List Nat} (h : ExO ob0 ob I) {id : Nat} (hn : ob0 id = none) (he : ∀ j, j ≠ id → ob' j = ob j) : ExO ob0 ob' I := fun j o h1 h2 => by
  rw [he j (by rintro rfl; rw [hn] at h2; cases h2)]; exact h j o h1 h2

end Go.Rx.Try
