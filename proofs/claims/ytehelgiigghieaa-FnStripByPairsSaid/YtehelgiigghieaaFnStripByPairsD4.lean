import Derived.Test.YtehelgiigghieaaFnStripByPairsD3
namespace Go.Rx.Try
open Go.Proofs
set_option maxRecDepth 100000
set_option maxHeartbeats 8000000
set_option linter.unusedSimpArgs false
set_option linter.unusedVariables false

theorem someCloud_ok {A : Heap} {X : List Nat} {S S0 : Sig} {H : Heap} {id p : Nat} {bv : AV} {bs : List Int} (hS : SOk A X S H.size H) (hs : Sel S (rdr id bv p) S0) (hR : SubF S0 [byt bv bs]) (hb : ByteOk bs) (hp : p ≤ 1000000) :
    ACalls Try.prog fn_spec_someCloud [.ptr id 0] H fun r H' => ∃ g : D2, r = .tuple [g.u, g.v] ∧ SOk A X (.rwI g.v g.ys.length g.ys :: .rwI g.u g.xs.length g.xs :: rdr id bv g.q :: S0) H'.size H' ∧ g.xs.length ≤ 21 ∧ Bd 1000 g.xs ∧ g.ys.length ≤ 21 ∧ Bd 1000 g.ys ∧ g.q ≤ p + 60 := by
  refine code_spec_someCloud.gowg (V := fun g : D2 => .tuple [g.u, g.v]) (T := fun g => [.rwI g.v g.ys.length g.ys, .rwI g.u g.xs.length g.xs]) (C := fun g => rdr id bv g.q) (Φ := fun g => g.xs.length ≤ 21 ∧ Bd 1000 g.xs ∧ g.ys.length ≤ 21 ∧ Bd 1000 g.ys ∧ g.q ≤ p + 60) hS hs rfl hR rfl (fun _ => rfl) (fun _ => rfl) (fun _ => rfl) (by simp) ?_
  intro X'
  unfold mc_spec_someCloud
  (repeat (first | refine gst (hk := ?_) | (show GO _ _ _ _ _ (⟨some _, none, .call _ _⟩ :: _) _; first | (refine go_callg rfl code_spec_reader_pick.callable (fun H hH => pick_ok hH (by exact Sel.auto) (by exact SubF.auto) (by assumption) (by omega)) ?_; intro g hg) | (refine go_callg rfl code_spec_reader_one.callable (fun H hH => one_ok hH (by exact Sel.auto) (by exact SubF.auto) (by rfl) (by assumption) (by omega) (by first | omega | decide) (by first | omega | decide)) ?_; intro g hg)) | (show GO _ _ _ _ _ (⟨some _, none, _⟩ :: _) _; first | refine go_op (hk := ?_) | (refine go_nw (hk := ?_); intro u; try simp only [llc, lln, lna, lza]) | (refine go_np (hk := ?_); intro id)) | (show GO _ _ _ _ _ (⟨none, none, _⟩ :: _) _; refine go_st (hk := ?_)) | (show GO _ _ _ _ _ (⟨_, some _, _⟩ :: _) _; first | refine go_in (hk := ?_) | refine go_out (hk := ?_) | refine go_void (hk := ?_)) | (show GK _ _ _ _ (blockK _ _ _); refine gk_past rfl ?_) | (show GC _ _ _ _ _ (.cond _ _ _) _; first | refine gc_yes (h1 := ?_) | refine gc_no (h1 := ?_))))
  rename_i u4 u5 a0 ha0
  obtain ⟨n, rfl⟩ : ∃ z, z = g := ⟨g, rfl⟩
  have hn7 : n ≤ 7 := by simp only [List.mem_cons, List.not_mem_nil, or_false] at hg; omega
  obtain ⟨k0, hk0⟩ : ∃ z, z = a0 - 1 := ⟨a0 - 1, rfl⟩
  rw [← hk0]
  have hk1 : -1 ≤ k0 ∧ k0 ≤ 1 := by omega
  clear hg ha0
  refine gc_loop (γ := D2) (fun t => [(0, .ptr id 0), (4, t.u), (5, t.v), (6, .int .i64 k0), (7, .int .i64 n)]) (fun t => [.rwI t.u t.xs.length t.xs, .rwI t.v t.ys.length t.ys, rdr id bv t.q, byt bv bs]) (fun t => t.xs.length ≤ 7 ∧ t.ys.length = t.xs.length ∧ Bd 1000 t.xs ∧ Bd 1000 t.ys ∧ t.q ≤ p + 2 + 4 * t.xs.length) (fun t => 7 - t.xs.length) ⟨u4, u5, [], [], p + 2⟩ ⟨by simp, by simp, by simp [Bd], by simp [Bd], by simp⟩ (hb := ?_)
  rintro ⟨w4, w5, xs, ys, q⟩ ⟨h1, h2, h3, h4, h5⟩ I ν m hk
  simp only at h1 h2 h3 h4 h5 hk ⊢
  (repeat (first | refine gst (hk := ?_) | (show GO _ _ _ _ _ (⟨some _, none, .call _ _⟩ :: _) _; first | (refine go_callg rfl code_spec_reader_pick.callable (fun H hH => pick_ok hH (by exact Sel.auto) (by exact SubF.auto) (by assumption) (by omega)) ?_; intro g hg) | (refine go_callg rfl code_spec_reader_one.callable (fun H hH => one_ok hH (by exact Sel.auto) (by exact SubF.auto) (by rfl) (by assumption) (by omega) (by first | omega | decide) (by first | omega | decide)) ?_; intro g hg)) | (show GO _ _ _ _ _ (⟨some _, none, _⟩ :: _) _; first | refine go_op (hk := ?_) | (refine go_nw (hk := ?_); intro u; try simp only [llc, lln, lna, lza]) | (refine go_np (hk := ?_); intro id)) | (show GO _ _ _ _ _ (⟨none, none, _⟩ :: _) _; refine go_st (hk := ?_)) | (show GO _ _ _ _ _ (⟨_, some _, _⟩ :: _) _; first | refine go_in (hk := ?_) | refine go_out (hk := ?_) | refine go_void (hk := ?_)) | (show GK _ _ _ _ (blockK _ _ _); refine gk_past rfl ?_) | (show GC _ _ _ _ _ (.cond _ _ _) _; first | refine gc_yes (h1 := ?_) | refine gc_no (h1 := ?_))))
  refine gc_cond rfl (fun h6 => ?_) (fun h6 => ?_)
  · (repeat (first | refine gst (hk := ?_) | (show GO _ _ _ _ _ (⟨some _, none, .call _ _⟩ :: _) _; first | (refine go_callg rfl code_spec_reader_pick.callable (fun H hH => pick_ok hH (by exact Sel.auto) (by exact SubF.auto) (by assumption) (by omega)) ?_; intro g hg) | (refine go_callg rfl code_spec_reader_one.callable (fun H hH => one_ok hH (by exact Sel.auto) (by exact SubF.auto) (by rfl) (by assumption) (by omega) (by first | omega | decide) (by first | omega | decide)) ?_; intro g hg)) | (show GO _ _ _ _ _ (⟨some _, none, _⟩ :: _) _; first | refine go_op (hk := ?_) | (refine go_nw (hk := ?_); intro u; try simp only [llc, lln, lna, lza]) | (refine go_np (hk := ?_); intro id)) | (show GO _ _ _ _ _ (⟨none, none, _⟩ :: _) _; refine go_st (hk := ?_)) | (show GO _ _ _ _ _ (⟨_, some _, _⟩ :: _) _; first | refine go_in (hk := ?_) | refine go_out (hk := ?_) | refine go_void (hk := ?_)) | (show GK _ _ _ _ (blockK _ _ _); refine gk_past rfl ?_) | (show GC _ _ _ _ _ (.cond _ _ _) _; first | refine gc_yes (h1 := ?_) | refine gc_no (h1 := ?_))))
    rename_i p1 hp1 p2 hp2
    obtain ⟨x, rfl⟩ : ∃ z, p1 = z + 5 := ⟨p1 - 5, by omega⟩
    have hx : -5 ≤ x ∧ x ≤ 5 := by omega
    rw [show x + 5 - 5 = x by omega]
    have hx2 : -1000 ≤ x ∧ x ≤ 1000 := by omega
    refine gc_cond rfl (fun h7 => ?_) (fun h7 => ?_)
    · have m1 := absmul (k := k0) (l := x) (A := 1) (B := 5) hk1.1 hk1.2 hx.1 hx.2
      (repeat (first | refine gst (hk := ?_) | (show GO _ _ _ _ _ (⟨some _, none, .call _ _⟩ :: _) _; first | (refine go_callg rfl code_spec_reader_pick.callable (fun H hH => pick_ok hH (by exact Sel.auto) (by exact SubF.auto) (by assumption) (by omega)) ?_; intro g hg) | (refine go_callg rfl code_spec_reader_one.callable (fun H hH => one_ok hH (by exact Sel.auto) (by exact SubF.auto) (by rfl) (by assumption) (by omega) (by first | omega | decide) (by first | omega | decide)) ?_; intro g hg)) | (show GO _ _ _ _ _ (⟨some _, none, _⟩ :: _) _; first | refine go_op (hk := ?_) | (refine go_nw (hk := ?_); intro u; try simp only [llc, lln, lna, lza]) | (refine go_np (hk := ?_); intro id)) | (show GO _ _ _ _ _ (⟨none, none, _⟩ :: _) _; refine go_st (hk := ?_)) | (show GO _ _ _ _ _ (⟨_, some _, _⟩ :: _) _; first | refine go_in (hk := ?_) | refine go_out (hk := ?_) | refine go_void (hk := ?_)) | (show GK _ _ _ _ (blockK _ _ _); refine gk_past rfl ?_) | (show GC _ _ _ _ _ (.cond _ _ _) _; first | refine gc_yes (h1 := ?_) | refine gc_no (h1 := ?_))))
      rename_i ua ub uc
      have hy : -1000 ≤ k0 * x + g - 1 ∧ k0 * x + g - 1 ≤ 1000 := by omega
      have hk := hk ⟨ub, u, xs ++ [x], ys ++ [k0 * x + g - 1], q + 1 + 1 + 1 + 1⟩ ⟨by simp; omega, by simp; omega, h3.app (Bd.one hx2), h4.app (Bd.one hy), by simp only [List.length_append, List.length_cons, List.length_nil]; omega⟩ (by simp; omega)
      simp only [List.length_append, List.length_cons, List.length_nil, Nat.zero_add] at hk
      exact gk_next hk
    · have hy : -1000 ≤ p2 - 12 ∧ p2 - 12 ≤ 1000 := by omega
      (repeat (first | refine gst (hk := ?_) | (show GO _ _ _ _ _ (⟨some _, none, .call _ _⟩ :: _) _; first | (refine go_callg rfl code_spec_reader_pick.callable (fun H hH => pick_ok hH (by exact Sel.auto) (by exact SubF.auto) (by assumption) (by omega)) ?_; intro g hg) | (refine go_callg rfl code_spec_reader_one.callable (fun H hH => one_ok hH (by exact Sel.auto) (by exact SubF.auto) (by rfl) (by assumption) (by omega) (by first | omega | decide) (by first | omega | decide)) ?_; intro g hg)) | (show GO _ _ _ _ _ (⟨some _, none, _⟩ :: _) _; first | refine go_op (hk := ?_) | (refine go_nw (hk := ?_); intro u; try simp only [llc, lln, lna, lza]) | (refine go_np (hk := ?_); intro id)) | (show GO _ _ _ _ _ (⟨none, none, _⟩ :: _) _; refine go_st (hk := ?_)) | (show GO _ _ _ _ _ (⟨_, some _, _⟩ :: _) _; first | refine go_in (hk := ?_) | refine go_out (hk := ?_) | refine go_void (hk := ?_)) | (show GK _ _ _ _ (blockK _ _ _); refine gk_past rfl ?_) | (show GC _ _ _ _ _ (.cond _ _ _) _; first | refine gc_yes (h1 := ?_) | refine gc_no (h1 := ?_))))
      rename_i ua ub uc
      have hk := hk ⟨ub, u, xs ++ [x], ys ++ [p2 - 12], q + 1 + 1 + 1⟩ ⟨by simp; omega, by simp; omega, h3.app (Bd.one hx2), h4.app (Bd.one hy), by simp only [List.length_append, List.length_cons, List.length_nil]; omega⟩ (by simp; omega)
      simp only [List.length_append, List.length_cons, List.length_nil, Nat.zero_add] at hk
      exact gk_next hk
  (repeat (first | refine gst (hk := ?_) | (show GO _ _ _ _ _ (⟨some _, none, .call _ _⟩ :: _) _; first | (refine go_callg rfl code_spec_reader_pick.callable (fun H hH => pick_ok hH (by exact Sel.auto) (by exact SubF.auto) (by assumption) (by omega)) ?_; intro g hg) | (refine go_callg rfl code_spec_reader_one.callable (fun H hH => one_ok hH (by exact Sel.auto) (by exact SubF.auto) (by rfl) (by assumption) (by omega) (by first | omega | decide) (by first | omega | decide)) ?_; intro g hg)) | (show GO _ _ _ _ _ (⟨some _, none, _⟩ :: _) _; first | refine go_op (hk := ?_) | (refine go_nw (hk := ?_); intro u; try simp only [llc, lln, lna, lza]) | (refine go_np (hk := ?_); intro id)) | (show GO _ _ _ _ _ (⟨none, none, _⟩ :: _) _; refine go_st (hk := ?_)) | (show GO _ _ _ _ _ (⟨_, some _, _⟩ :: _) _; first | refine go_in (hk := ?_) | refine go_out (hk := ?_) | refine go_void (hk := ?_)) | (show GK _ _ _ _ (blockK _ _ _); refine gk_past rfl ?_) | (show GC _ _ _ _ _ (.cond _ _ _) _; first | refine gc_yes (h1 := ?_) | refine gc_no (h1 := ?_))))
  refine gc_cond rfl (fun h7 => ?_) (fun h7 => ?_)
  · (repeat (first | refine gst (hk := ?_) | (show GO _ _ _ _ _ (⟨some _, none, .call _ _⟩ :: _) _; first | (refine go_callg rfl code_spec_reader_pick.callable (fun H hH => pick_ok hH (by exact Sel.auto) (by exact SubF.auto) (by assumption) (by omega)) ?_; intro g hg) | (refine go_callg rfl code_spec_reader_one.callable (fun H hH => one_ok hH (by exact Sel.auto) (by exact SubF.auto) (by rfl) (by assumption) (by omega) (by first | omega | decide) (by first | omega | decide)) ?_; intro g hg)) | (show GO _ _ _ _ _ (⟨some _, none, _⟩ :: _) _; first | refine go_op (hk := ?_) | (refine go_nw (hk := ?_); intro u; try simp only [llc, lln, lna, lza]) | (refine go_np (hk := ?_); intro id)) | (show GO _ _ _ _ _ (⟨none, none, _⟩ :: _) _; refine go_st (hk := ?_)) | (show GO _ _ _ _ _ (⟨_, some _, _⟩ :: _) _; first | refine go_in (hk := ?_) | refine go_out (hk := ?_) | refine go_void (hk := ?_)) | (show GK _ _ _ _ (blockK _ _ _); refine gk_past rfl ?_) | (show GC _ _ _ _ _ (.cond _ _ _) _; first | refine gc_yes (h1 := ?_) | refine gc_no (h1 := ?_))))
    refine gk_ret rfl fun H' hH => ⟨⟨w4, u, xs, ys ++ [0], q + 1⟩, rfl, ⟨by simp only; omega, h3, by simp; omega, h4.app (Bd.one (by omega)), by simp only; omega⟩, ?_⟩
    show SOk H X' [.rwI u (ys ++ [0]).length (ys ++ [0]), .rwI w4 xs.length xs, rdr id bv (q + 1)] H'.size H'
    rw [show (ys ++ [(0 : Int)]).length = ys.length + 1 by simp]
    exact hH.sub (by exact Sub.auto)
  (repeat (first | refine gst (hk := ?_) | (show GO _ _ _ _ _ (⟨some _, none, .call _ _⟩ :: _) _; first | (refine go_callg rfl code_spec_reader_pick.callable (fun H hH => pick_ok hH (by exact Sel.auto) (by exact SubF.auto) (by assumption) (by omega)) ?_; intro g hg) | (refine go_callg rfl code_spec_reader_one.callable (fun H hH => one_ok hH (by exact Sel.auto) (by exact SubF.auto) (by rfl) (by assumption) (by omega) (by first | omega | decide) (by first | omega | decide)) ?_; intro g hg)) | (show GO _ _ _ _ _ (⟨some _, none, _⟩ :: _) _; first | refine go_op (hk := ?_) | (refine go_nw (hk := ?_); intro u; try simp only [llc, lln, lna, lza]) | (refine go_np (hk := ?_); intro id)) | (show GO _ _ _ _ _ (⟨none, none, _⟩ :: _) _; refine go_st (hk := ?_)) | (show GO _ _ _ _ _ (⟨_, some _, _⟩ :: _) _; first | refine go_in (hk := ?_) | refine go_out (hk := ?_) | refine go_void (hk := ?_)) | (show GK _ _ _ _ (blockK _ _ _); refine gk_past rfl ?_) | (show GC _ _ _ _ _ (.cond _ _ _) _; first | refine gc_yes (h1 := ?_) | refine gc_no (h1 := ?_))))
  refine gc_cond rfl (fun h8 => ?_) (fun h8 => ?_)
  · (repeat (first | refine gst (hk := ?_) | (show GO _ _ _ _ _ (⟨some _, none, .call _ _⟩ :: _) _; first | (refine go_callg rfl code_spec_reader_pick.callable (fun H hH => pick_ok hH (by exact Sel.auto) (by exact SubF.auto) (by assumption) (by omega)) ?_; intro g hg) | (refine go_callg rfl code_spec_reader_one.callable (fun H hH => one_ok hH (by exact Sel.auto) (by exact SubF.auto) (by rfl) (by assumption) (by omega) (by first | omega | decide) (by first | omega | decide)) ?_; intro g hg)) | (show GO _ _ _ _ _ (⟨some _, none, _⟩ :: _) _; first | refine go_op (hk := ?_) | (refine go_nw (hk := ?_); intro u; try simp only [llc, lln, lna, lza]) | (refine go_np (hk := ?_); intro id)) | (show GO _ _ _ _ _ (⟨none, none, _⟩ :: _) _; refine go_st (hk := ?_)) | (show GO _ _ _ _ _ (⟨_, some _, _⟩ :: _) _; first | refine go_in (hk := ?_) | refine go_out (hk := ?_) | refine go_void (hk := ?_)) | (show GK _ _ _ _ (blockK _ _ _); refine gk_past rfl ?_) | (show GC _ _ _ _ _ (.cond _ _ _) _; first | refine gc_yes (h1 := ?_) | refine gc_no (h1 := ?_))))
    refine gc_cond rfl (fun h9 => ?_) (fun h9 => ?_)
    · (repeat (first | refine gst (hk := ?_) | (show GO _ _ _ _ _ (⟨some _, none, .call _ _⟩ :: _) _; first | (refine go_callg rfl code_spec_reader_pick.callable (fun H hH => pick_ok hH (by exact Sel.auto) (by exact SubF.auto) (by assumption) (by omega)) ?_; intro g hg) | (refine go_callg rfl code_spec_reader_one.callable (fun H hH => one_ok hH (by exact Sel.auto) (by exact SubF.auto) (by rfl) (by assumption) (by omega) (by first | omega | decide) (by first | omega | decide)) ?_; intro g hg)) | (show GO _ _ _ _ _ (⟨some _, none, _⟩ :: _) _; first | refine go_op (hk := ?_) | (refine go_nw (hk := ?_); intro u; try simp only [llc, lln, lna, lza]) | (refine go_np (hk := ?_); intro id)) | (show GO _ _ _ _ _ (⟨none, none, _⟩ :: _) _; refine go_st (hk := ?_)) | (show GO _ _ _ _ _ (⟨_, some _, _⟩ :: _) _; first | refine go_in (hk := ?_) | refine go_out (hk := ?_) | refine go_void (hk := ?_)) | (show GK _ _ _ _ (blockK _ _ _); refine gk_past rfl ?_) | (show GC _ _ _ _ _ (.cond _ _ _) _; first | refine gc_yes (h1 := ?_) | refine gc_no (h1 := ?_))))
      have hx : -1000 ≤ g ∧ g ≤ 1000 := by simp only [List.mem_cons, List.not_mem_nil, or_false] at hg; omega
      refine gk_ret rfl fun H' hH => ⟨⟨w4, w5, xs.set 0 g, ys, q + 1 + 1⟩, rfl, ⟨by simp only [List.length_set]; omega, h3.set hx, by simp only; omega, h4, by simp only; omega⟩, ?_⟩
      show SOk H X' [.rwI w5 ys.length ys, .rwI w4 (xs.set 0 g).length (xs.set 0 g), rdr id bv (q + 1 + 1)] H'.size H'
      rw [show (xs.set 0 g).length = xs.length by simp]
      exact hH.sub (by exact Sub.auto)
    (repeat (first | refine gst (hk := ?_) | (show GO _ _ _ _ _ (⟨some _, none, .call _ _⟩ :: _) _; first | (refine go_callg rfl code_spec_reader_pick.callable (fun H hH => pick_ok hH (by exact Sel.auto) (by exact SubF.auto) (by assumption) (by omega)) ?_; intro g hg) | (refine go_callg rfl code_spec_reader_one.callable (fun H hH => one_ok hH (by exact Sel.auto) (by exact SubF.auto) (by rfl) (by assumption) (by omega) (by first | omega | decide) (by first | omega | decide)) ?_; intro g hg)) | (show GO _ _ _ _ _ (⟨some _, none, _⟩ :: _) _; first | refine go_op (hk := ?_) | (refine go_nw (hk := ?_); intro u; try simp only [llc, lln, lna, lza]) | (refine go_np (hk := ?_); intro id)) | (show GO _ _ _ _ _ (⟨none, none, _⟩ :: _) _; refine go_st (hk := ?_)) | (show GO _ _ _ _ _ (⟨_, some _, _⟩ :: _) _; first | refine go_in (hk := ?_) | refine go_out (hk := ?_) | refine go_void (hk := ?_)) | (show GK _ _ _ _ (blockK _ _ _); refine gk_past rfl ?_) | (show GC _ _ _ _ _ (.cond _ _ _) _; first | refine gc_yes (h1 := ?_) | refine gc_no (h1 := ?_))))
    exact gk_ret rfl fun H' hH => ⟨⟨w4, w5, xs, ys, q + 1⟩, rfl, ⟨by simp only; omega, h3, by simp only; omega, h4, by simp only; omega⟩, hH.sub (by exact Sub.auto)⟩
  (repeat (first | refine gst (hk := ?_) | (show GO _ _ _ _ _ (⟨some _, none, .call _ _⟩ :: _) _; first | (refine go_callg rfl code_spec_reader_pick.callable (fun H hH => pick_ok hH (by exact Sel.auto) (by exact SubF.auto) (by assumption) (by omega)) ?_; intro g hg) | (refine go_callg rfl code_spec_reader_one.callable (fun H hH => one_ok hH (by exact Sel.auto) (by exact SubF.auto) (by rfl) (by assumption) (by omega) (by first | omega | decide) (by first | omega | decide)) ?_; intro g hg)) | (show GO _ _ _ _ _ (⟨some _, none, _⟩ :: _) _; first | refine go_op (hk := ?_) | (refine go_nw (hk := ?_); intro u; try simp only [llc, lln, lna, lza]) | (refine go_np (hk := ?_); intro id)) | (show GO _ _ _ _ _ (⟨none, none, _⟩ :: _) _; refine go_st (hk := ?_)) | (show GO _ _ _ _ _ (⟨_, some _, _⟩ :: _) _; first | refine go_in (hk := ?_) | refine go_out (hk := ?_) | refine go_void (hk := ?_)) | (show GK _ _ _ _ (blockK _ _ _); refine gk_past rfl ?_) | (show GC _ _ _ _ _ (.cond _ _ _) _; first | refine gc_yes (h1 := ?_) | refine gc_no (h1 := ?_))))
  exact gk_ret rfl fun H' hH => ⟨⟨w4, w5, xs, ys, q + 1⟩, rfl, ⟨by simp only; omega, h3, by simp only; omega, h4, by simp only; omega⟩, hH.sub (by exact Sub.auto)⟩

theorem drawStripByPairs_ok {A : Heap} {X : List Nat} {S : Sig} {H : Heap} {cv : AV} {bs : List Int} (hS : SOk A X S H.size H) (hh : Has S cv 1 bs.length (bytesL bs)) (hb : ∀ i, 0 ≤ nth bs i ∧ nth bs i ≤ 255) (hl : bs.length ≤ 1048576) :
    ACalls Try.prog fn_spec_DrawStripByPairs [cv] H fun r H' => ∃ g : D2, r = .tuple [g.u, g.v] ∧ SOk A X (.rwI g.v g.ys.length g.ys :: .rwI g.u g.xs.length g.xs :: S) H'.size H' ∧ g.xs.length ≤ 21 ∧ Bd 1000 g.xs ∧ g.ys.length ≤ 21 ∧ Bd 1000 g.ys := by
  refine code_spec_DrawStripByPairs.gon (R := [byt cv bs]) (V := fun g : D2 => .tuple [g.u, g.v]) (T := fun g => [.rwI g.v g.ys.length g.ys, .rwI g.u g.xs.length g.xs]) (Φ := fun g => g.xs.length ≤ 21 ∧ Bd 1000 g.xs ∧ g.ys.length ≤ 21 ∧ Bd 1000 g.ys) hS ⟨⟨rfl, hS.valsA hh⟩, trivial⟩ (fun _ => rfl) (by simp) ?_
  unfold mc_spec_DrawStripByPairs
  (repeat (first | refine gst (hk := ?_) | (show GO _ _ _ _ _ (⟨some _, none, .call _ _⟩ :: _) _; first | (refine go_callg rfl code_spec_newReader.callable (fun H hH => newReaderC_ok hH (c := ⟨.cell, .ptr _ 0, 4, 1, [_, _, _, _]⟩) Sel.head rfl (by exact Has.auto) (by assumption) (by omega)) ?_; intro g hg) | (refine go_callg rfl code_spec_newReader.callable (fun H hH => newReader_ok hH (by exact Has.auto) (by assumption) (by omega)) ?_; intro g hg) | (refine go_callg rfl code_spec_someCloud.callable (fun H hH => someCloud_ok hH (by exact Sel.auto) (by exact SubF.auto) (by assumption) (by omega)) ?_; intro g hg)) | (show GO _ _ _ _ _ (⟨some _, none, _⟩ :: _) _; first | refine go_op (hk := ?_) | (refine go_nw (hk := ?_); intro u; try simp only [llc, lln, lna, lza]) | (refine go_np (hk := ?_); intro id)) | (show GO _ _ _ _ _ (⟨none, none, _⟩ :: _) _; refine go_st (hk := ?_)) | (show GO _ _ _ _ _ (⟨_, some _, _⟩ :: _) _; first | refine go_in (hk := ?_) | refine go_out (hk := ?_) | refine go_void (hk := ?_)) | (show GK _ _ _ _ (blockK _ _ _); refine gk_past rfl ?_) | (show GC _ _ _ _ _ (.cond _ _ _) _; first | refine gc_yes (h1 := ?_) | refine gc_no (h1 := ?_))))
  exact gk_ret rfl fun H' hH => ⟨g, rfl, ⟨hg.1, hg.2.1, hg.2.2.1, hg.2.2.2.1⟩, hH.sub (by exact Sub.auto)⟩

theorem implApart0_ok {H : Heap} {x : Int} (hx : -4611686018427387904 ≤ x ∧ x ≤ 4611686018427387904) : ACalls Try.prog fn_impl_apart [.int .i64 x, .int .i64 0] H fun r H' => r = .int .i64 (max x (-x)) ∧ H' = H := by
  refine ACalls.val ?_ rfl
  refine code_impl_apart.go [] trivial (by simp) ?_
  unfold mc_impl_apart
  (repeat (first | refine gst (hk := ?_) | (show GO _ _ _ _ _ (⟨some _, none, _⟩ :: _) _; first | refine go_op (hk := ?_) | (refine go_nw (hk := ?_); intro u; try simp only [llc, lln, lna, lza]) | (refine go_np (hk := ?_); intro id)) | (show GO _ _ _ _ _ (⟨none, none, _⟩ :: _) _; refine go_st (hk := ?_)) | (show GO _ _ _ _ _ (⟨_, some _, _⟩ :: _) _; first | refine go_in (hk := ?_) | refine go_out (hk := ?_) | refine go_void (hk := ?_)) | (show GK _ _ _ _ (blockK _ _ _); refine gk_past rfl ?_) | (show GC _ _ _ _ _ (.cond _ _ _) _; first | refine gc_yes (h1 := ?_) | refine gc_no (h1 := ?_))))
  exact gk_ret rfl fun H' hH => ⟨by show AV.int _ (max (x - 0) (0 - x)) = _; congr 1; omega, hH.leE⟩

def dApart0 : List AV → Option AV
  | [.int .i64 x, .int .i64 0] => if -4611686018427387904 ≤ x ∧ x ≤ 4611686018427387904 then some (.int .i64 (max x (-x))) else none
  | _ => none

theorem dApart0_is {x : Int} (hx : -4611686018427387904 ≤ x ∧ x ≤ 4611686018427387904) : dApart0 [.int .i64 x, .int .i64 0] = some (.int .i64 (max x (-x))) := if_pos hx

theorem dApart0_ok (H : Heap) : FamOk Try.prog H fn_impl_apart dApart0 := by
  intro args v hv
  unfold dApart0 at hv
  split at hv
  · split at hv
    · rename_i h1
      simp only [Option.some.injEq] at hv; subst hv
      exact ⟨code_impl_apart.callable, implApart0_ok h1⟩
    · cases hv
  · cases hv

theorem commonFactor_ok {H : Heap} {a b : Int} (ha : -4611686018427387904 ≤ a ∧ a ≤ 4611686018427387904) (hb : -4611686018427387904 ≤ b ∧ b ≤ 4611686018427387904) :
    ACalls Try.prog fn_impl_commonFactor [.int .i64 a, .int .i64 b] H fun r H' => r = .int .i64 (Int.gcd a b : Nat) ∧ H' = H := by
  refine ACalls.val ?_ rfl
  refine code_impl_commonFactor.go [] trivial (by simp) ?_
  unfold mc_impl_commonFactor
  (repeat (first | refine gst (hk := ?_) | (with_reducible refine gc_drq ?_; intro _) | (show GO _ _ _ _ _ (⟨some _, none, _⟩ :: _) _; first | refine go_op (hk := ?_) | (refine go_nw (hk := ?_); intro u; try simp only [llc, lln, lna, lza]) | (refine go_np (hk := ?_); intro id)) | (show GQ _ _ _ _ _ _ _ (⟨some _, none, _⟩ :: _) _; first | refine gq_op (hk := ?_) | (refine gq_nw (hk := ?_); intro u; try simp only [llc, lln, lna, lza])) | (show GO _ _ _ _ _ (⟨none, none, _⟩ :: _) _; refine go_st (hk := ?_)) | (show GO _ _ _ _ _ (⟨_, some _, _⟩ :: _) _; first | refine go_in (hk := ?_) | refine go_out (hk := ?_) | refine go_void (hk := ?_)) | (show GQ _ _ _ _ _ _ _ (⟨_, some _, _⟩ :: _) _; first | refine gq_in (hk := ?_) | refine gq_out (hk := ?_) | refine gq_void (hk := ?_)) | (show GK _ _ _ _ (blockK _ _ _); refine gk_past rfl ?_) | (show GC _ _ _ _ _ (.cond _ _ _) _; first | refine gc_yes (h1 := ?_) | refine gc_no (h1 := ?_))))
  refine gc_loop (γ := Int × Int) (fun t => [(0, .int .i64 t.1), (1, .int .i64 t.2)]) (fun _ => []) (fun t => Int.gcd t.1 t.2 = Int.gcd a b ∧ (-4611686018427387904 ≤ t.1 ∧ t.1 ≤ 4611686018427387904) ∧ (-4611686018427387904 ≤ t.2 ∧ t.2 ≤ 4611686018427387904)) (fun t => t.2.natAbs) (a, b) ⟨rfl, ha, hb⟩ (hb := ?_)
  rintro ⟨x, y⟩ ⟨h1, h2, h3⟩ I ν m hk
  simp only at h1 h2 h3 hk ⊢
  (repeat (first | refine gst (hk := ?_) | (with_reducible refine gc_drq ?_; intro _) | (show GO _ _ _ _ _ (⟨some _, none, _⟩ :: _) _; first | refine go_op (hk := ?_) | (refine go_nw (hk := ?_); intro u; try simp only [llc, lln, lna, lza]) | (refine go_np (hk := ?_); intro id)) | (show GQ _ _ _ _ _ _ _ (⟨some _, none, _⟩ :: _) _; first | refine gq_op (hk := ?_) | (refine gq_nw (hk := ?_); intro u; try simp only [llc, lln, lna, lza])) | (show GO _ _ _ _ _ (⟨none, none, _⟩ :: _) _; refine go_st (hk := ?_)) | (show GO _ _ _ _ _ (⟨_, some _, _⟩ :: _) _; first | refine go_in (hk := ?_) | refine go_out (hk := ?_) | refine go_void (hk := ?_)) | (show GQ _ _ _ _ _ _ _ (⟨_, some _, _⟩ :: _) _; first | refine gq_in (hk := ?_) | refine gq_out (hk := ?_) | refine gq_void (hk := ?_)) | (show GK _ _ _ _ (blockK _ _ _); refine gk_past rfl ?_) | (show GC _ _ _ _ _ (.cond _ _ _) _; first | refine gc_yes (h1 := ?_) | refine gc_no (h1 := ?_))))
  refine gc_cond rfl (fun h => ?_) (fun h => ?_)
  · have h4 : (x.tmod y).natAbs < y.natAbs := by
      rw [Int.natAbs_tmod]; exact Nat.mod_lt _ (by omega)
    (repeat (first | refine gst (hk := ?_) | (with_reducible refine gc_drq ?_; intro _) | (show GO _ _ _ _ _ (⟨some _, none, _⟩ :: _) _; first | refine go_op (hk := ?_) | (refine go_nw (hk := ?_); intro u; try simp only [llc, lln, lna, lza]) | (refine go_np (hk := ?_); intro id)) | (show GQ _ _ _ _ _ _ _ (⟨some _, none, _⟩ :: _) _; first | refine gq_op (hk := ?_) | (refine gq_nw (hk := ?_); intro u; try simp only [llc, lln, lna, lza])) | (show GO _ _ _ _ _ (⟨none, none, _⟩ :: _) _; refine go_st (hk := ?_)) | (show GO _ _ _ _ _ (⟨_, some _, _⟩ :: _) _; first | refine go_in (hk := ?_) | refine go_out (hk := ?_) | refine go_void (hk := ?_)) | (show GQ _ _ _ _ _ _ _ (⟨_, some _, _⟩ :: _) _; first | refine gq_in (hk := ?_) | refine gq_out (hk := ?_) | refine gq_void (hk := ?_)) | (show GK _ _ _ _ (blockK _ _ _); refine gk_past rfl ?_) | (show GC _ _ _ _ _ (.cond _ _ _) _; first | refine gc_yes (h1 := ?_) | refine gc_no (h1 := ?_))))
    refine gq_is rfl (stp_rem rfl rfl h) ?_
    (repeat (first | refine gst (hk := ?_) | (with_reducible refine gc_drq ?_; intro _) | (show GO _ _ _ _ _ (⟨some _, none, _⟩ :: _) _; first | refine go_op (hk := ?_) | (refine go_nw (hk := ?_); intro u; try simp only [llc, lln, lna, lza]) | (refine go_np (hk := ?_); intro id)) | (show GQ _ _ _ _ _ _ _ (⟨some _, none, _⟩ :: _) _; first | refine gq_op (hk := ?_) | (refine gq_nw (hk := ?_); intro u; try simp only [llc, lln, lna, lza])) | (show GO _ _ _ _ _ (⟨none, none, _⟩ :: _) _; refine go_st (hk := ?_)) | (show GO _ _ _ _ _ (⟨_, some _, _⟩ :: _) _; first | refine go_in (hk := ?_) | refine go_out (hk := ?_) | refine go_void (hk := ?_)) | (show GQ _ _ _ _ _ _ _ (⟨_, some _, _⟩ :: _) _; first | refine gq_in (hk := ?_) | refine gq_out (hk := ?_) | refine gq_void (hk := ?_)) | (show GK _ _ _ _ (blockK _ _ _); refine gk_past rfl ?_) | (show GC _ _ _ _ _ (.cond _ _ _) _; first | refine gc_yes (h1 := ?_) | refine gc_no (h1 := ?_))))
    exact gk_next (hk (y, x.tmod y) ⟨by rw [tmod_gcd]; exact h1, h3, by simp only; omega⟩ h4)
  · have hy : y = 0 := by omega
    subst hy
    have e : (Int.gcd a b : Nat) = x.natAbs := by rw [← h1]; simp [Int.gcd]
    (repeat (first | refine gst (hk := ?_) | (with_reducible refine gc_drq ?_; intro _) | (show GO _ _ _ _ _ (⟨some _, none, _⟩ :: _) _; first | refine go_op (hk := ?_) | (refine go_nw (hk := ?_); intro u; try simp only [llc, lln, lna, lza]) | (refine go_np (hk := ?_); intro id)) | (show GQ _ _ _ _ _ _ _ (⟨some _, none, _⟩ :: _) _; first | refine gq_op (hk := ?_) | (refine gq_nw (hk := ?_); intro u; try simp only [llc, lln, lna, lza])) | (show GO _ _ _ _ _ (⟨none, none, _⟩ :: _) _; refine go_st (hk := ?_)) | (show GO _ _ _ _ _ (⟨_, some _, _⟩ :: _) _; first | refine go_in (hk := ?_) | refine go_out (hk := ?_) | refine go_void (hk := ?_)) | (show GQ _ _ _ _ _ _ _ (⟨_, some _, _⟩ :: _) _; first | refine gq_in (hk := ?_) | refine gq_out (hk := ?_) | refine gq_void (hk := ?_)) | (show GK _ _ _ _ (blockK _ _ _); refine gk_past rfl ?_) | (show GC _ _ _ _ _ (.cond _ _ _) _; first | refine gc_yes (h1 := ?_) | refine gc_no (h1 := ?_))))
    refine go_callp rfl code_impl_apart.callable (fun H hH => implApart0_ok h2) ?_
    (repeat (first | refine gst (hk := ?_) | (with_reducible refine gc_drq ?_; intro _) | (show GO _ _ _ _ _ (⟨some _, none, _⟩ :: _) _; first | refine go_op (hk := ?_) | (refine go_nw (hk := ?_); intro u; try simp only [llc, lln, lna, lza]) | (refine go_np (hk := ?_); intro id)) | (show GQ _ _ _ _ _ _ _ (⟨some _, none, _⟩ :: _) _; first | refine gq_op (hk := ?_) | (refine gq_nw (hk := ?_); intro u; try simp only [llc, lln, lna, lza])) | (show GO _ _ _ _ _ (⟨none, none, _⟩ :: _) _; refine go_st (hk := ?_)) | (show GO _ _ _ _ _ (⟨_, some _, _⟩ :: _) _; first | refine go_in (hk := ?_) | refine go_out (hk := ?_) | refine go_void (hk := ?_)) | (show GQ _ _ _ _ _ _ _ (⟨_, some _, _⟩ :: _) _; first | refine gq_in (hk := ?_) | refine gq_out (hk := ?_) | refine gq_void (hk := ?_)) | (show GK _ _ _ _ (blockK _ _ _); refine gk_past rfl ?_) | (show GC _ _ _ _ _ (.cond _ _ _) _; first | refine gc_yes (h1 := ?_) | refine gc_no (h1 := ?_))))
    exact gk_ret rfl fun H' hH => ⟨by rw [e]; show AV.int _ (max x (-x)) = _; congr 1; omega, hH.leE⟩

theorem tdiv_negneg {a g : Int} (h : 0 < g) : a.tdiv (-g) = (-a).tdiv g := by
  rw [Int.tdiv_neg, Int.neg_tdiv]

theorem lowest_ok {H : Heap} {a b : Int} (ha : -4611686018427387904 ≤ a ∧ a ≤ 4611686018427387904) (hb : -4611686018427387904 ≤ b ∧ b ≤ 4611686018427387904) (h0 : b ≠ 0) :
    ACalls Try.prog fn_impl_lowest [.int .i64 a, .int .i64 b] H fun r H' => r = frV ((a : Rat) / (b : Rat)) ∧ H' = H := by
  refine ACalls.val ?_ rfl
  have hg : (0 : Int) < (Int.gcd a b : Nat) := by
    have := Int.gcd_pos_of_ne_zero_right a h0
    omega
  have hg2 : (Int.gcd a b : Nat) ≤ b.natAbs := Nat.le_of_dvd (by omega) (Int.gcd_dvd_natAbs_right a b)
  obtain ⟨e1, e2⟩ := div_num (a := a) h0
  refine code_impl_lowest.go [] trivial (by simp) ?_
  unfold mc_impl_lowest
  (repeat (first | refine gst (hk := ?_) | (with_reducible first | (refine gc_drw (h := ?_); intro _) | (refine gc_drw2 (h := ?_); intro _)) | (show GO _ _ _ _ _ (⟨some _, none, _⟩ :: _) _; first | refine go_op (hk := ?_) | (refine go_nw (hk := ?_); intro u; try simp only [llc, lln, lna, lza]) | (refine go_np (hk := ?_); intro id)) | (show GD _ _ _ _ _ _ _ (⟨some _, none, _⟩ :: _) _; first | refine gd_op (hk := ?_) | (refine gd_nw (hk := ?_); intro u; try simp only [llc, lln, lna, lza])) | (show GD2 _ _ _ _ _ _ _ _ _ _ _ _ _ _; first | refine gd2_nil rfl ?_ | refine gd2_op (hk := ?_) | (refine gd2_nw (hk := ?_); intro u; try simp only [llc, lln, lna, lza]) | refine gd2_l (hk := ?_) | refine gd2_lp (hk := ?_) | (refine gd2_newp (hk := ?_); intro id) | refine gd2_st (hk := ?_) | (refine gd2_bsl rfl rfl ?_; intro u; try simp only [llc, lln, lna, lza]) | (refine gd2_a (hk := ?_); intro u; try simp only [llc, lln, lna, lza])) | (show GO _ _ _ _ _ (⟨none, none, _⟩ :: _) _; refine go_st (hk := ?_)) | (show GD _ _ _ _ _ _ _ (⟨none, none, _⟩ :: _) _; refine gd_st (hk := ?_)) | (show GO _ _ _ _ _ (⟨_, some _, _⟩ :: _) _; first | refine go_in (hk := ?_) | refine go_out (hk := ?_) | refine go_void (hk := ?_)) | (show GK _ _ _ _ (blockK _ _ _); refine gk_past rfl ?_) | (show GC _ _ _ _ _ (.cond _ _ _) _; first | refine gc_yes (h1 := ?_) | refine gc_no (h1 := ?_))))
  refine go_callp rfl code_impl_commonFactor.callable (fun H hH => commonFactor_ok (by omega) (by omega)) ?_
  (repeat (first | refine gst (hk := ?_) | (with_reducible first | (refine gc_drw (h := ?_); intro _) | (refine gc_drw2 (h := ?_); intro _)) | (show GO _ _ _ _ _ (⟨some _, none, _⟩ :: _) _; first | refine go_op (hk := ?_) | (refine go_nw (hk := ?_); intro u; try simp only [llc, lln, lna, lza]) | (refine go_np (hk := ?_); intro id)) | (show GD _ _ _ _ _ _ _ (⟨some _, none, _⟩ :: _) _; first | refine gd_op (hk := ?_) | (refine gd_nw (hk := ?_); intro u; try simp only [llc, lln, lna, lza])) | (show GD2 _ _ _ _ _ _ _ _ _ _ _ _ _ _; first | refine gd2_nil rfl ?_ | refine gd2_op (hk := ?_) | (refine gd2_nw (hk := ?_); intro u; try simp only [llc, lln, lna, lza]) | refine gd2_l (hk := ?_) | refine gd2_lp (hk := ?_) | (refine gd2_newp (hk := ?_); intro id) | refine gd2_st (hk := ?_) | (refine gd2_bsl rfl rfl ?_; intro u; try simp only [llc, lln, lna, lza]) | (refine gd2_a (hk := ?_); intro u; try simp only [llc, lln, lna, lza])) | (show GO _ _ _ _ _ (⟨none, none, _⟩ :: _) _; refine go_st (hk := ?_)) | (show GD _ _ _ _ _ _ _ (⟨none, none, _⟩ :: _) _; refine gd_st (hk := ?_)) | (show GO _ _ _ _ _ (⟨_, some _, _⟩ :: _) _; first | refine go_in (hk := ?_) | refine go_out (hk := ?_) | refine go_void (hk := ?_)) | (show GK _ _ _ _ (blockK _ _ _); refine gk_past rfl ?_) | (show GC _ _ _ _ _ (.cond _ _ _) _; first | refine gc_yes (h1 := ?_) | refine gc_no (h1 := ?_))))
  refine gc_cond rfl (fun h => ?_) (fun h => ?_)
  · have d1 := tdiv_in (a := -a) (g := (Int.gcd a b : Nat)) (B := 4611686018427387904) (by omega)
    have d2 := tdiv_in (a := -b) (g := (Int.gcd a b : Nat)) (B := 4611686018427387904) (by omega)
    rw [show b.sign = -1 from Int.sign_eq_neg_one_of_neg h] at e1
    rw [show max b (-b) = -b by omega] at e2
    rw [show (-1 : Int) * a = -a by omega] at e1
    rw [← tdiv_negneg hg] at d1 d2
    (repeat (first | refine gst (hk := ?_) | (with_reducible first | (refine gc_drw (h := ?_); intro _) | (refine gc_drw2 (h := ?_); intro _)) | (show GO _ _ _ _ _ (⟨some _, none, _⟩ :: _) _; first | refine go_op (hk := ?_) | (refine go_nw (hk := ?_); intro u; try simp only [llc, lln, lna, lza]) | (refine go_np (hk := ?_); intro id)) | (show GD _ _ _ _ _ _ _ (⟨some _, none, _⟩ :: _) _; first | refine gd_op (hk := ?_) | (refine gd_nw (hk := ?_); intro u; try simp only [llc, lln, lna, lza])) | (show GD2 _ _ _ _ _ _ _ _ _ _ _ _ _ _; first | refine gd2_nil rfl ?_ | refine gd2_op (hk := ?_) | (refine gd2_nw (hk := ?_); intro u; try simp only [llc, lln, lna, lza]) | refine gd2_l (hk := ?_) | refine gd2_lp (hk := ?_) | (refine gd2_newp (hk := ?_); intro id) | refine gd2_st (hk := ?_) | (refine gd2_bsl rfl rfl ?_; intro u; try simp only [llc, lln, lna, lza]) | (refine gd2_a (hk := ?_); intro u; try simp only [llc, lln, lna, lza])) | (show GO _ _ _ _ _ (⟨none, none, _⟩ :: _) _; refine go_st (hk := ?_)) | (show GD _ _ _ _ _ _ _ (⟨none, none, _⟩ :: _) _; refine gd_st (hk := ?_)) | (show GO _ _ _ _ _ (⟨_, some _, _⟩ :: _) _; first | refine go_in (hk := ?_) | refine go_out (hk := ?_) | refine go_void (hk := ?_)) | (show GK _ _ _ _ (blockK _ _ _); refine gk_past rfl ?_) | (show GC _ _ _ _ _ (.cond _ _ _) _; first | refine gc_yes (h1 := ?_) | refine gc_no (h1 := ?_))))
    refine gd_is rfl (stp_quo (a := a) (b := -((Int.gcd a b : Nat) : Int)) (by exact rfl) (by exact rfl) (by omega) (by omega)) ?_
    (repeat (first | refine gst (hk := ?_) | (with_reducible first | (refine gc_drw (h := ?_); intro _) | (refine gc_drw2 (h := ?_); intro _)) | (show GO _ _ _ _ _ (⟨some _, none, _⟩ :: _) _; first | refine go_op (hk := ?_) | (refine go_nw (hk := ?_); intro u; try simp only [llc, lln, lna, lza]) | (refine go_np (hk := ?_); intro id)) | (show GD _ _ _ _ _ _ _ (⟨some _, none, _⟩ :: _) _; first | refine gd_op (hk := ?_) | (refine gd_nw (hk := ?_); intro u; try simp only [llc, lln, lna, lza])) | (show GD2 _ _ _ _ _ _ _ _ _ _ _ _ _ _; first | refine gd2_nil rfl ?_ | refine gd2_op (hk := ?_) | (refine gd2_nw (hk := ?_); intro u; try simp only [llc, lln, lna, lza]) | refine gd2_l (hk := ?_) | refine gd2_lp (hk := ?_) | (refine gd2_newp (hk := ?_); intro id) | refine gd2_st (hk := ?_) | (refine gd2_bsl rfl rfl ?_; intro u; try simp only [llc, lln, lna, lza]) | (refine gd2_a (hk := ?_); intro u; try simp only [llc, lln, lna, lza])) | (show GO _ _ _ _ _ (⟨none, none, _⟩ :: _) _; refine go_st (hk := ?_)) | (show GD _ _ _ _ _ _ _ (⟨none, none, _⟩ :: _) _; refine gd_st (hk := ?_)) | (show GO _ _ _ _ _ (⟨_, some _, _⟩ :: _) _; first | refine go_in (hk := ?_) | refine go_out (hk := ?_) | refine go_void (hk := ?_)) | (show GK _ _ _ _ (blockK _ _ _); refine gk_past rfl ?_) | (show GC _ _ _ _ _ (.cond _ _ _) _; first | refine gc_yes (h1 := ?_) | refine gc_no (h1 := ?_))))
    refine gd_is rfl (stp_quo (a := b) (b := -((Int.gcd a b : Nat) : Int)) (by exact rfl) (by exact rfl) (by omega) (by omega)) ?_
    (repeat (first | refine gst (hk := ?_) | (with_reducible first | (refine gc_drw (h := ?_); intro _) | (refine gc_drw2 (h := ?_); intro _)) | (show GO _ _ _ _ _ (⟨some _, none, _⟩ :: _) _; first | refine go_op (hk := ?_) | (refine go_nw (hk := ?_); intro u; try simp only [llc, lln, lna, lza]) | (refine go_np (hk := ?_); intro id)) | (show GD _ _ _ _ _ _ _ (⟨some _, none, _⟩ :: _) _; first | refine gd_op (hk := ?_) | (refine gd_nw (hk := ?_); intro u; try simp only [llc, lln, lna, lza])) | (show GD2 _ _ _ _ _ _ _ _ _ _ _ _ _ _; first | refine gd2_nil rfl ?_ | refine gd2_op (hk := ?_) | (refine gd2_nw (hk := ?_); intro u; try simp only [llc, lln, lna, lza]) | refine gd2_l (hk := ?_) | refine gd2_lp (hk := ?_) | (refine gd2_newp (hk := ?_); intro id) | refine gd2_st (hk := ?_) | (refine gd2_bsl rfl rfl ?_; intro u; try simp only [llc, lln, lna, lza]) | (refine gd2_a (hk := ?_); intro u; try simp only [llc, lln, lna, lza])) | (show GO _ _ _ _ _ (⟨none, none, _⟩ :: _) _; refine go_st (hk := ?_)) | (show GD _ _ _ _ _ _ _ (⟨none, none, _⟩ :: _) _; refine gd_st (hk := ?_)) | (show GO _ _ _ _ _ (⟨_, some _, _⟩ :: _) _; first | refine go_in (hk := ?_) | refine go_out (hk := ?_) | refine go_void (hk := ?_)) | (show GK _ _ _ _ (blockK _ _ _); refine gk_past rfl ?_) | (show GC _ _ _ _ _ (.cond _ _ _) _; first | refine gc_yes (h1 := ?_) | refine gc_no (h1 := ?_))))
    exact gk_retc rfl (by exact Sel.auto) rfl rfl fun H' hH => ⟨by rw [tdiv_negneg hg, tdiv_negneg hg, frV, e1, e2, Int.tdiv_eq_ediv_of_nonneg (show 0 ≤ -b by omega)]; rfl, hH.leE⟩
  · have d1 := tdiv_in (a := a) (g := (Int.gcd a b : Nat)) (B := 4611686018427387904) (by omega)
    have d2 := tdiv_in (a := b) (g := (Int.gcd a b : Nat)) (B := 4611686018427387904) (by omega)
    rw [show b.sign = 1 from Int.sign_eq_one_of_pos (by omega)] at e1
    rw [show max b (-b) = b by omega] at e2
    rw [show (1 : Int) * a = a by omega] at e1
    (repeat (first | refine gst (hk := ?_) | (with_reducible first | (refine gc_drw (h := ?_); intro _) | (refine gc_drw2 (h := ?_); intro _)) | (show GO _ _ _ _ _ (⟨some _, none, _⟩ :: _) _; first | refine go_op (hk := ?_) | (refine go_nw (hk := ?_); intro u; try simp only [llc, lln, lna, lza]) | (refine go_np (hk := ?_); intro id)) | (show GD _ _ _ _ _ _ _ (⟨some _, none, _⟩ :: _) _; first | refine gd_op (hk := ?_) | (refine gd_nw (hk := ?_); intro u; try simp only [llc, lln, lna, lza])) | (show GD2 _ _ _ _ _ _ _ _ _ _ _ _ _ _; first | refine gd2_nil rfl ?_ | refine gd2_op (hk := ?_) | (refine gd2_nw (hk := ?_); intro u; try simp only [llc, lln, lna, lza]) | refine gd2_l (hk := ?_) | refine gd2_lp (hk := ?_) | (refine gd2_newp (hk := ?_); intro id) | refine gd2_st (hk := ?_) | (refine gd2_bsl rfl rfl ?_; intro u; try simp only [llc, lln, lna, lza]) | (refine gd2_a (hk := ?_); intro u; try simp only [llc, lln, lna, lza])) | (show GO _ _ _ _ _ (⟨none, none, _⟩ :: _) _; refine go_st (hk := ?_)) | (show GD _ _ _ _ _ _ _ (⟨none, none, _⟩ :: _) _; refine gd_st (hk := ?_)) | (show GO _ _ _ _ _ (⟨_, some _, _⟩ :: _) _; first | refine go_in (hk := ?_) | refine go_out (hk := ?_) | refine go_void (hk := ?_)) | (show GK _ _ _ _ (blockK _ _ _); refine gk_past rfl ?_) | (show GC _ _ _ _ _ (.cond _ _ _) _; first | refine gc_yes (h1 := ?_) | refine gc_no (h1 := ?_))))
    refine gd_is rfl (stp_quo (a := a) (b := ((Int.gcd a b : Nat) : Int)) (by exact rfl) (by exact rfl) (by omega) (by omega)) ?_
    (repeat (first | refine gst (hk := ?_) | (with_reducible first | (refine gc_drw (h := ?_); intro _) | (refine gc_drw2 (h := ?_); intro _)) | (show GO _ _ _ _ _ (⟨some _, none, _⟩ :: _) _; first | refine go_op (hk := ?_) | (refine go_nw (hk := ?_); intro u; try simp only [llc, lln, lna, lza]) | (refine go_np (hk := ?_); intro id)) | (show GD _ _ _ _ _ _ _ (⟨some _, none, _⟩ :: _) _; first | refine gd_op (hk := ?_) | (refine gd_nw (hk := ?_); intro u; try simp only [llc, lln, lna, lza])) | (show GD2 _ _ _ _ _ _ _ _ _ _ _ _ _ _; first | refine gd2_nil rfl ?_ | refine gd2_op (hk := ?_) | (refine gd2_nw (hk := ?_); intro u; try simp only [llc, lln, lna, lza]) | refine gd2_l (hk := ?_) | refine gd2_lp (hk := ?_) | (refine gd2_newp (hk := ?_); intro id) | refine gd2_st (hk := ?_) | (refine gd2_bsl rfl rfl ?_; intro u; try simp only [llc, lln, lna, lza]) | (refine gd2_a (hk := ?_); intro u; try simp only [llc, lln, lna, lza])) | (show GO _ _ _ _ _ (⟨none, none, _⟩ :: _) _; refine go_st (hk := ?_)) | (show GD _ _ _ _ _ _ _ (⟨none, none, _⟩ :: _) _; refine gd_st (hk := ?_)) | (show GO _ _ _ _ _ (⟨_, some _, _⟩ :: _) _; first | refine go_in (hk := ?_) | refine go_out (hk := ?_) | refine go_void (hk := ?_)) | (show GK _ _ _ _ (blockK _ _ _); refine gk_past rfl ?_) | (show GC _ _ _ _ _ (.cond _ _ _) _; first | refine gc_yes (h1 := ?_) | refine gc_no (h1 := ?_))))
    exact gk_retc rfl (by exact Sel.auto) rfl rfl fun H' hH => ⟨by rw [frV, e1, e2]; rfl, hH.leE⟩

theorem implPlus_ok {H : Heap} {p q : Rat} (hf : FitA p q) :
    ACalls Try.prog fn_impl_Frac_plus [frV p, frV q] H fun r H' => r = frV (p + q) ∧ H' = H := by
  refine ACalls.val ?_ rfl
  obtain ⟨h1, h2, h3⟩ := hf
  have h4 := dd_pos p q
  unfold frV
  refine code_impl_Frac_plus.go [] trivial (by simp) ?_
  unfold mc_impl_Frac_plus
  (repeat (first | refine gst (hk := ?_) | (show GO _ _ _ _ _ (⟨some _, none, _⟩ :: _) _; first | refine go_op (hk := ?_) | (refine go_nw (hk := ?_); intro u; try simp only [llc, lln, lna, lza]) | (refine go_np (hk := ?_); intro id)) | (show GO _ _ _ _ _ (⟨none, none, _⟩ :: _) _; refine go_st (hk := ?_)) | (show GO _ _ _ _ _ (⟨_, some _, _⟩ :: _) _; first | refine go_in (hk := ?_) | refine go_out (hk := ?_) | refine go_void (hk := ?_)) | (show GK _ _ _ _ (blockK _ _ _); refine gk_past rfl ?_) | (show GC _ _ _ _ _ (.cond _ _ _) _; first | refine gc_yes (h1 := ?_) | refine gc_no (h1 := ?_))))
  refine go_callp rfl code_impl_lowest.callable (fun H hH => lowest_ok (by omega) (by omega) (by omega)) ?_
  rw [add_nd]
  (repeat (first | refine gst (hk := ?_) | (show GO _ _ _ _ _ (⟨some _, none, _⟩ :: _) _; first | refine go_op (hk := ?_) | (refine go_nw (hk := ?_); intro u; try simp only [llc, lln, lna, lza]) | (refine go_np (hk := ?_); intro id)) | (show GO _ _ _ _ _ (⟨none, none, _⟩ :: _) _; refine go_st (hk := ?_)) | (show GO _ _ _ _ _ (⟨_, some _, _⟩ :: _) _; first | refine go_in (hk := ?_) | refine go_out (hk := ?_) | refine go_void (hk := ?_)) | (show GK _ _ _ _ (blockK _ _ _); refine gk_past rfl ?_) | (show GC _ _ _ _ _ (.cond _ _ _) _; first | refine gc_yes (h1 := ?_) | refine gc_no (h1 := ?_))))
  exact gk_retc rfl (by exact Sel.auto) rfl rfl fun H' hH => ⟨rfl, hH.leE⟩

theorem fitA_neg {p q : Rat} (hf : FitA p q) : FitA p (-q) := by
  obtain ⟨h1, h2, h3⟩ := hf
  unfold FitA
  rw [Rat.neg_num, Rat.neg_den, Int.neg_mul]
  exact ⟨h1, by omega, h3⟩

theorem implMinus_ok {H : Heap} {p q : Rat} (hf : FitA p q) (hq : -4611686018427387904 ≤ q.num ∧ q.num ≤ 4611686018427387904) :
    ACalls Try.prog fn_impl_Frac_minus [frV p, frV q] H fun r H' => r = frV (p - q) ∧ H' = H := by
  refine ACalls.val ?_ rfl
  have hn := fitA_neg hf
  have e : frV (-q) = .agg [.int .i64 (-q.num), .int .i64 (q.den : Int)] := by rw [frV, Rat.neg_num, Rat.neg_den]
  have e3 : p + -q = p - q := by grind
  unfold frV
  refine code_impl_Frac_minus.go [] trivial (by simp) ?_
  unfold mc_impl_Frac_minus
  (repeat (first | refine gst (hk := ?_) | (show GO _ _ _ _ _ (⟨some _, none, _⟩ :: _) _; first | refine go_op (hk := ?_) | (refine go_nw (hk := ?_); intro u; try simp only [llc, lln, lna, lza]) | (refine go_np (hk := ?_); intro id)) | (show GO _ _ _ _ _ (⟨none, none, _⟩ :: _) _; refine go_st (hk := ?_)) | (show GO _ _ _ _ _ (⟨_, some _, _⟩ :: _) _; first | refine go_in (hk := ?_) | refine go_out (hk := ?_) | refine go_void (hk := ?_)) | (show GK _ _ _ _ (blockK _ _ _); refine gk_past rfl ?_) | (show GC _ _ _ _ _ (.cond _ _ _) _; first | refine gc_yes (h1 := ?_) | refine gc_no (h1 := ?_))))
  refine go_callp rfl code_impl_Frac_plus.callable (fun H hH => by
    have h := implPlus_ok (H := H) hn
    rw [e, e3] at h
    exact h) ?_
  (repeat (first | refine gst (hk := ?_) | (show GO _ _ _ _ _ (⟨some _, none, _⟩ :: _) _; first | refine go_op (hk := ?_) | (refine go_nw (hk := ?_); intro u; try simp only [llc, lln, lna, lza]) | (refine go_np (hk := ?_); intro id)) | (show GO _ _ _ _ _ (⟨none, none, _⟩ :: _) _; refine go_st (hk := ?_)) | (show GO _ _ _ _ _ (⟨_, some _, _⟩ :: _) _; first | refine go_in (hk := ?_) | refine go_out (hk := ?_) | refine go_void (hk := ?_)) | (show GK _ _ _ _ (blockK _ _ _); refine gk_past rfl ?_) | (show GC _ _ _ _ _ (.cond _ _ _) _; first | refine gc_yes (h1 := ?_) | refine gc_no (h1 := ?_))))
  exact gk_retc rfl (by exact Sel.auto) rfl rfl fun H' hH => ⟨rfl, hH.leE⟩

/-- times a whole number -/
theorem implTimes_ok {H : Heap} {p : Rat} {n : Int} (hf : FitM p (n : Rat)) :
    ACalls Try.prog fn_impl_Frac_times [frV p, .int .i64 n] H fun r H' => r = frV (p * (n : Rat)) ∧ H' = H := by
  refine ACalls.val ?_ rfl
  obtain ⟨h1, h3⟩ := hf
  have h4 := dd_pos p (n : Rat)
  have e := mul_nd p (n : Rat)
  simp only [Rat.num_intCast, Rat.den_intCast, Int.natCast_one, Int.mul_one] at h1 h3 h4 e
  unfold frV
  refine code_impl_Frac_times.go [] trivial (by simp) ?_
  unfold mc_impl_Frac_times
  (repeat (first | refine gst (hk := ?_) | (show GO _ _ _ _ _ (⟨some _, none, _⟩ :: _) _; first | refine go_op (hk := ?_) | (refine go_nw (hk := ?_); intro u; try simp only [llc, lln, lna, lza]) | (refine go_np (hk := ?_); intro id)) | (show GO _ _ _ _ _ (⟨none, none, _⟩ :: _) _; refine go_st (hk := ?_)) | (show GO _ _ _ _ _ (⟨_, some _, _⟩ :: _) _; first | refine go_in (hk := ?_) | refine go_out (hk := ?_) | refine go_void (hk := ?_)) | (show GK _ _ _ _ (blockK _ _ _); refine gk_past rfl ?_) | (show GC _ _ _ _ _ (.cond _ _ _) _; first | refine gc_yes (h1 := ?_) | refine gc_no (h1 := ?_))))
  refine go_callp rfl code_impl_lowest.callable (fun H hH => lowest_ok (by omega) (by omega) (by omega)) ?_
  rw [e]
  (repeat (first | refine gst (hk := ?_) | (show GO _ _ _ _ _ (⟨some _, none, _⟩ :: _) _; first | refine go_op (hk := ?_) | (refine go_nw (hk := ?_); intro u; try simp only [llc, lln, lna, lza]) | (refine go_np (hk := ?_); intro id)) | (show GO _ _ _ _ _ (⟨none, none, _⟩ :: _) _; refine go_st (hk := ?_)) | (show GO _ _ _ _ _ (⟨_, some _, _⟩ :: _) _; first | refine go_in (hk := ?_) | refine go_out (hk := ?_) | refine go_void (hk := ?_)) | (show GK _ _ _ _ (blockK _ _ _); refine gk_past rfl ?_) | (show GC _ _ _ _ _ (.cond _ _ _) _; first | refine gc_yes (h1 := ?_) | refine gc_no (h1 := ?_))))
  exact gk_retc rfl (by exact Sel.auto) rfl rfl fun H' hH => ⟨rfl, hH.leE⟩

theorem over_nd (p : Rat) {n : Int} (h : n ≠ 0) : ((p.num : Int) : Rat) / (((p.den : Int) * n : Int) : Rat) = p * (((1 : Int) : Rat) / (n : Rat)) := by
  have h1 := rat_nd p
  have h3 : ((p.den : Int) : Rat) ≠ 0 := rat_ne (by have := den_pos p; omega)
  have h4 := rat_ne h
  rw [Rat.intCast_mul, ← h1]
  generalize ((p.den : Int) : Rat) = x at *
  generalize (n : Rat) = y at *
  rw [show ((1 : Int) : Rat) = 1 from rfl]
  grind

theorem implOver_ok {H : Heap} {p : Rat} {n : Int} (hn : n ≠ 0) (hp : -4611686018427387904 ≤ p.num ∧ p.num ≤ 4611686018427387904) (hd : -4611686018427387904 ≤ (p.den : Int) * n ∧ (p.den : Int) * n ≤ 4611686018427387904) :
    ACalls Try.prog fn_impl_Frac_over [frV p, .int .i64 n] H fun r H' => r = frV (p * (((1 : Int) : Rat) / (n : Rat))) ∧ H' = H := by
  refine ACalls.val ?_ rfl
  have h0 : (p.den : Int) * n ≠ 0 := Int.mul_ne_zero (by have := den_pos p; omega) hn
  unfold frV
  refine code_impl_Frac_over.go [] trivial (by simp) ?_
  unfold mc_impl_Frac_over
  (repeat (first | refine gst (hk := ?_) | (show GO _ _ _ _ _ (⟨some _, none, _⟩ :: _) _; first | refine go_op (hk := ?_) | (refine go_nw (hk := ?_); intro u; try simp only [llc, lln, lna, lza]) | (refine go_np (hk := ?_); intro id)) | (show GO _ _ _ _ _ (⟨none, none, _⟩ :: _) _; refine go_st (hk := ?_)) | (show GO _ _ _ _ _ (⟨_, some _, _⟩ :: _) _; first | refine go_in (hk := ?_) | refine go_out (hk := ?_) | refine go_void (hk := ?_)) | (show GK _ _ _ _ (blockK _ _ _); refine gk_past rfl ?_) | (show GC _ _ _ _ _ (.cond _ _ _) _; first | refine gc_yes (h1 := ?_) | refine gc_no (h1 := ?_))))
  refine go_callp rfl code_impl_lowest.callable (fun H hH => lowest_ok (by omega) (by omega) h0) ?_
  rw [over_nd p hn]
  (repeat (first | refine gst (hk := ?_) | (show GO _ _ _ _ _ (⟨some _, none, _⟩ :: _) _; first | refine go_op (hk := ?_) | (refine go_nw (hk := ?_); intro u; try simp only [llc, lln, lna, lza]) | (refine go_np (hk := ?_); intro id)) | (show GO _ _ _ _ _ (⟨none, none, _⟩ :: _) _; refine go_st (hk := ?_)) | (show GO _ _ _ _ _ (⟨_, some _, _⟩ :: _) _; first | refine go_in (hk := ?_) | refine go_out (hk := ?_) | refine go_void (hk := ?_)) | (show GK _ _ _ _ (blockK _ _ _); refine gk_past rfl ?_) | (show GC _ _ _ _ _ (.cond _ _ _) _; first | refine gc_yes (h1 := ?_) | refine gc_no (h1 := ?_))))
  exact gk_retc rfl (by exact Sel.auto) rfl rfl fun H' hH => ⟨rfl, hH.leE⟩

theorem implSize_ok {H : Heap} {q : Rat} (h1 : -4000000000000000000 ≤ q.num ∧ q.num ≤ 4000000000000000000) :
    ACalls Try.prog fn_impl_Frac_size [frV q] H fun r H' => r = frV (absR q) ∧ H' = H := by
  refine ACalls.val ?_ rfl
  have e := absR_num q
  unfold frV
  refine code_impl_Frac_size.go [] trivial (by simp) ?_
  unfold mc_impl_Frac_size
  (repeat (first | refine gst (hk := ?_) | (show GO _ _ _ _ _ (⟨some _, none, _⟩ :: _) _; first | refine go_op (hk := ?_) | (refine go_nw (hk := ?_); intro u; try simp only [llc, lln, lna, lza]) | (refine go_np (hk := ?_); intro id)) | (show GR _ _ _ _ _ _ (⟨some _, none, _⟩ :: _) _; refine gr_op (hk := ?_)) | (show GO _ _ _ _ _ (⟨none, none, _⟩ :: _) _; refine go_st (hk := ?_)) | (show GR _ _ _ _ _ _ (⟨none, none, _⟩ :: _) _; refine gr_st (hk := ?_)) | (show GO _ _ _ _ _ (⟨_, some _, _⟩ :: _) _; first | refine go_in (hk := ?_) | refine go_out (hk := ?_) | refine go_void (hk := ?_)) | (show GK _ _ _ _ (blockK _ _ _); refine gk_past rfl ?_) | (show GC _ _ _ _ _ (.cond _ _ _) _; first | refine gc_yes (h1 := ?_) | refine gc_no (h1 := ?_))))
  refine gc_drc (fun _ => qtTab [(fn_impl_apart, dApart0)]) (fun H _ => qtTab_cons (dApart0_ok H) qtTab_nil) (fun H0 => ?_)
  (repeat (first | refine gst (hk := ?_) | (show GO _ _ _ _ _ (⟨some _, none, _⟩ :: _) _; first | refine go_op (hk := ?_) | (refine go_nw (hk := ?_); intro u; try simp only [llc, lln, lna, lza]) | (refine go_np (hk := ?_); intro id)) | (show GR _ _ _ _ _ _ (⟨some _, none, _⟩ :: _) _; refine gr_op (hk := ?_)) | (show GO _ _ _ _ _ (⟨none, none, _⟩ :: _) _; refine go_st (hk := ?_)) | (show GR _ _ _ _ _ _ (⟨none, none, _⟩ :: _) _; refine gr_st (hk := ?_)) | (show GO _ _ _ _ _ (⟨_, some _, _⟩ :: _) _; first | refine go_in (hk := ?_) | refine go_out (hk := ?_) | refine go_void (hk := ?_)) | (show GK _ _ _ _ (blockK _ _ _); refine gk_past rfl ?_) | (show GC _ _ _ _ _ (.cond _ _ _) _; first | refine gc_yes (h1 := ?_) | refine gc_no (h1 := ?_))))
  refine gr_call rfl (dApart0_is (by omega)) ?_
  (repeat (first | refine gst (hk := ?_) | (show GO _ _ _ _ _ (⟨some _, none, _⟩ :: _) _; first | refine go_op (hk := ?_) | (refine go_nw (hk := ?_); intro u; try simp only [llc, lln, lna, lza]) | (refine go_np (hk := ?_); intro id)) | (show GR _ _ _ _ _ _ (⟨some _, none, _⟩ :: _) _; refine gr_op (hk := ?_)) | (show GO _ _ _ _ _ (⟨none, none, _⟩ :: _) _; refine go_st (hk := ?_)) | (show GR _ _ _ _ _ _ (⟨none, none, _⟩ :: _) _; refine gr_st (hk := ?_)) | (show GO _ _ _ _ _ (⟨_, some _, _⟩ :: _) _; first | refine go_in (hk := ?_) | refine go_out (hk := ?_) | refine go_void (hk := ?_)) | (show GK _ _ _ _ (blockK _ _ _); refine gk_past rfl ?_) | (show GC _ _ _ _ _ (.cond _ _ _) _; first | refine gc_yes (h1 := ?_) | refine gc_no (h1 := ?_))))
  exact gk_retc rfl (by exact Sel.auto) rfl rfl fun H' hH => ⟨by rw [e.1, e.2]; rfl, hH.leE⟩

/-- which fraction is less: -1, 0, 1 -/
def cmR (p q : Rat) : Int := sgn (p.num * (q.den : Int) - q.num * (p.den : Int))

theorem cmR_neg {p q : Rat} : cmR p q < 0 ↔ p < q := by
  rw [Rat.lt_iff]; unfold cmR sgn
  split
  · omega
  · split <;> omega

theorem cmR_pos {p q : Rat} : 0 < cmR p q ↔ q < p := by
  rw [Rat.lt_iff]; unfold cmR sgn
  split
  · omega
  · split <;> omega

theorem implCompare_ok {H : Heap} {p q : Rat} (hf : FitA p q) :
    ACalls Try.prog fn_impl_Frac_compare [frV p, frV q] H fun r H' => r = .int .i64 (cmR p q) ∧ H' = H := by
  refine ACalls.val ?_ rfl
  obtain ⟨h1, h2, h3⟩ := hf
  unfold frV
  refine code_impl_Frac_compare.go [] trivial (by simp) ?_
  unfold mc_impl_Frac_compare
  (repeat (first | refine gst (hk := ?_) | (refine gq_call rfl (fun _ => qtCmp_is) ?_) | (show GO _ _ _ _ _ (⟨some _, none, _⟩ :: _) _; first | refine go_op (hk := ?_) | (refine go_nw (hk := ?_); intro u; try simp only [llc, lln, lna, lza]) | (refine go_np (hk := ?_); intro id)) | (show GO _ _ _ _ _ (⟨none, none, _⟩ :: _) _; refine go_st (hk := ?_)) | (show GO _ _ _ _ _ (⟨_, some _, _⟩ :: _) _; first | refine go_in (hk := ?_) | refine go_out (hk := ?_) | refine go_void (hk := ?_)) | (show GK _ _ _ _ (blockK _ _ _); refine gk_past rfl ?_) | (show GC _ _ _ _ _ (.cond _ _ _) _; first | refine gc_yes (h1 := ?_) | refine gc_no (h1 := ?_))))
  refine go_callp rfl code_cmp_Compare_int.callable (fun H hH => compare_ok) ?_
  (repeat (first | refine gst (hk := ?_) | (refine gq_call rfl (fun _ => qtCmp_is) ?_) | (show GO _ _ _ _ _ (⟨some _, none, _⟩ :: _) _; first | refine go_op (hk := ?_) | (refine go_nw (hk := ?_); intro u; try simp only [llc, lln, lna, lza]) | (refine go_np (hk := ?_); intro id)) | (show GO _ _ _ _ _ (⟨none, none, _⟩ :: _) _; refine go_st (hk := ?_)) | (show GO _ _ _ _ _ (⟨_, some _, _⟩ :: _) _; first | refine go_in (hk := ?_) | refine go_out (hk := ?_) | refine go_void (hk := ?_)) | (show GK _ _ _ _ (blockK _ _ _); refine gk_past rfl ?_) | (show GC _ _ _ _ _ (.cond _ _ _) _; first | refine gc_yes (h1 := ?_) | refine gc_no (h1 := ?_))))
  exact gk_ret rfl fun H' hH => ⟨rfl, hH.leE⟩

def cellsK {α : Type} (c : α → List AV) : List α → List AV
  | [] => []
  | q :: L => c q ++ cellsK c L

structure Cels {α : Type} (c : α → List AV) (k : Nat) : Prop where
  len : ∀ a, (c a).length = k
  one : ∀ a, (c a).all AV.one = true

theorem ck_len {α : Type} {c : α → List AV} {k : Nat} (h : Cels c k) : ∀ L : List α, (cellsK c L).length = L.length * k
  | [] => by simp [cellsK]
  | q :: L => by rw [cellsK, List.length_append, ck_len h L, h.len, List.length_cons, Nat.add_mul]; omega

theorem ck_app {α : Type} {c : α → List AV} : ∀ L M : List α, cellsK c (L ++ M) = cellsK c L ++ cellsK c M
  | [], M => rfl
  | q :: L, M => by rw [List.cons_append, cellsK, cellsK, ck_app L M, List.append_assoc]

theorem ck_one {α : Type} {c : α → List AV} {k : Nat} (h : Cels c k) : ∀ L : List α, (cellsK c L).all AV.one = true
  | [] => rfl
  | q :: L => by rw [cellsK, List.all_append, ck_one h L, h.one]; rfl

theorem ck_take {α : Type} {c : α → List AV} {k : Nat} (h : Cels c k) : ∀ (L : List α) (i : Nat), (cellsK c L).take (i * k) = cellsK c (L.take i)
  | [], i => by simp [cellsK]
  | q :: L, 0 => by simp [cellsK]
  | q :: L, i + 1 => by
    rw [List.take_succ_cons, cellsK, cellsK, show (i + 1) * k = (c q).length + i * k by rw [h.len, Nat.add_mul]; omega, List.take_length_add_append, ck_take h L i]

theorem ck_drop {α : Type} {c : α → List AV} {k : Nat} (h : Cels c k) : ∀ (L : List α) (i : Nat), (cellsK c L).drop (i * k) = cellsK c (L.drop i)
  | [], i => by simp [cellsK]
  | q :: L, 0 => by simp
  | q :: L, i + 1 => by
    rw [List.drop_succ_cons, cellsK, show (i + 1) * k = (c q).length + i * k by rw [h.len, Nat.add_mul]; omega, List.drop_length_add_append, ck_drop h L i]

def nthA {α : Type} (d : α) (L : List α) (i : Nat) : α := L.getD i d

theorem nthA_of {α : Type} {d : α} {L : List α} {i : Nat} (h : i < L.length) : nthA d L i = L[i] := by
  unfold nthA
  rw [List.getD_eq_getElem?_getD, List.getElem?_eq_getElem h]; rfl

theorem ck_at {α : Type} {c : α → List AV} {k : Nat} (hc : Cels c k) {d : α} {L : List α} {i : Nat} (h : i < L.length) : ((cellsK c L).drop (i * k)).take k = c (nthA d L i) := by
  have h1 := ck_take hc (L.drop i) 1
  rw [Nat.one_mul] at h1
  rw [ck_drop hc, h1, nthA_of h, List.drop_eq_getElem_cons h, List.take_succ_cons]
  simp [cellsK]

theorem packC_agg (ds : List AV) : packC true ds = some (.agg ds) := by unfold packC; split <;> rfl

theorem stp_ldK {α : Type} {c : α → List AV} {k : Nat} (hc : Cels c k) (d : α) {A : Heap} {X : List Nat} {E : List (Nat × AV)} {S : Sig} {p : MX} {v : AV} {n i : Nat} {L : List α} (hp : evE E p = some (v.elem i)) (hh : Has S v k n (cellsK c L)) (hn : n = L.length) (hi : i < L.length) : Stp A X E S (.ld p k true) (Is (.agg (c (nthA d L i))) S) :=
  stp_ldn hp hh (by omega) (ck_at hc hi) (packC_agg _)

theorem stp_slK {α : Type} {c : α → List AV} {k : Nat} (hc : Cels c k) {A : Heap} {X : List Nat} {E : List (Nat × AV)} {S S0 : Sig} {x : MX} {v : AV} {n l h : Nat} {L : List α} {lo hi : Option MX} (hx : evE E x = some v) (hs : Sel S ⟨.ro, v, k, n, cellsK c L⟩ S0) (hlo : lo = none ∧ l = 0 ∨ ∃ z, lo = some z ∧ evE E z = some (.int .i64 (l : Int))) (hhi : hi = none ∧ h = n ∨ ∃ z, hi = some z ∧ evE E z = some (.int .i64 (h : Int))) (hb : l ≤ h ∧ h ≤ n) :
    Stp A X E S (.sl x lo hi none k) (New fun u => ⟨.ro, u, k, h - l, cellsK c ((L.drop l).take (h - l))⟩ :: ⟨.ro, v, k, n, cellsK c L⟩ :: S0) := by
  have := stp_sl (A := A) (X := X) (E := E) (S := S) (S0 := S0) hx hs hlo hhi hb
  simp only [ck_drop hc, ck_take hc] at this
  exact this

theorem ck_set {α : Type} {c : α → List AV} {k : Nat} (hc : Cels c k) {L : List α} {i : Nat} (hi : i < L.length) (a : α) : (cellsK c L).take (i * k) ++ c a ++ (cellsK c L).drop (i * k + k) = cellsK c (L.set i a) := by
  rw [ck_take hc, show i * k + k = (i + 1) * k by rw [Nat.add_mul]; omega, ck_drop hc, List.set_eq_take_append_cons_drop, if_pos hi, ck_app, List.append_assoc]
  rfl

theorem stp_stK {α : Type} {c : α → List AV} {k : Nat} (hc : Cels c k) {A : Heap} {X : List Nat} {E : List (Nat × AV)} {S S0 : Sig} {p x : MX} {v : AV} {n i : Nat} {L : List α} {a : α} (hp : evE E p = some (v.elem i)) (hx : evE E x = some (.agg (c a))) (hs : Sel S ⟨.rw, v, k, n, cellsK c L⟩ S0) (hn : n = L.length) (hi : i < n) : Stp A X E S (.st p x k) (Is .any (⟨.rw, v, k, n, cellsK c (L.set i a)⟩ :: S0)) := by
  refine ⟨?_⟩
  intro τ H m nid hE hS hm
  have hS' := hS.sel hs
  have hcc := hS'.ch ⟨.rw, v, k, n, cellsK c L⟩ (by simp)
  obtain ⟨h1, h2, h3⟩ := hcc
  simp only at h1 h2 h3
  rcases h3 with ⟨_, h3⟩ | ⟨id, rfl, h4, h5⟩
  · omega
  · have hle : i * k + k ≤ n * k := by
      have := Nat.mul_le_mul_right k (show i + 1 ≤ n by omega)
      rw [Nat.add_mul] at this; omega
    have hH : H.write (AV.elem (.slice id 0 n none k) i) (c a) = some (H.put id (some ⟨true, cellsK c (L.set i a)⟩)) := by
      simp only [AV.elem, Heap.write, h5]
      rw [if_pos ⟨trivial, by rw [hc.len, h2]; omega, hc.one a⟩, Nat.zero_add, hc.len, ck_set hc (by omega)]
    refine ⟨.any, _, H.put id (some ⟨true, cellsK c (L.set i a)⟩), m, ⟨rfl, rfl⟩, ?_, ?_, Nat.le_refl _, by omega, Nat.le_refl _⟩
    · simp only [mstep, ev_of hE hp, ev_of hE hx, AV.cells, hc.len, if_true, hH, Option.map_some]
    · refine hS'.mod rfl ?_ (Nat.le_refl _) hS.mh ?_ (.inl rfl)
      · intro id' _ hne
        rw [Heap.get_put, if_neg]
        intro e; subst e; exact hne rfl
      · refine ⟨h1, by simp [ck_len hc, hn], .inr ⟨id, rfl, h4, by simp [Heap.get_put]⟩⟩

theorem zrep_K {α : Type} {c : α → List AV} {k : Nat} (hc : Cels c k) (a : α) : ∀ n, zrep (c a) (n * k) = cellsK c (List.replicate n a)
  | 0 => by simp [zrep, cellsK]
  | n + 1 => by
    rw [List.replicate_succ', ck_app, ← zrep_K hc a n]
    unfold zrep
    rw [Nat.add_mul, Nat.one_mul, List.range_add, List.map_append, List.map_map]
    congr 1
    have e : cellsK c [a] = c a := by simp [cellsK]
    rw [e, hc.len]
    apply List.ext_getElem
    · simp [hc.len]
    · intro i h1 h2
      rw [hc.len] at h2
      simp only [List.getElem_map, List.getElem_range, Function.comp]
      rw [show n * k + i = i + k * n by rw [Nat.mul_comm]; omega, Nat.add_mul_mod_self_left, Nat.mod_eq_of_lt h2, List.getD_eq_getElem?_getD, List.getElem?_eq_getElem (by rw [hc.len]; exact h2)]
      rfl

theorem stp_mkK {α : Type} {c : α → List AV} {k bytes : Nat} (hc : Cels c k) (a : α) {A : Heap} {X : List Nat} {E : List (Nat × AV)} {S : Sig} {x y : MX} {z : List AV} {l : Int} (n : Nat) (hx : evE E x = some (.int .i64 l)) (hy : evE E y = some (.int .i64 l)) (hl : l = (n : Int)) (hz : z = c a) (hn : bytes * n ≤ 281474976710656) (hn2 : n ≤ 1000000000000) : Stp A X E S (.mks x y z k bytes) (New fun v => ⟨.rw, v, k, n, cellsK c (List.replicate n a)⟩ :: S) := by
  subst hz; subst hl
  refine ⟨?_⟩
  intro τ H m nid hE hS hm
  have hs := Heap.lt_new H nid (some ⟨true, cellsK c (List.replicate n a)⟩)
  refine ⟨.slice nid 0 n none k, _, H.new nid (some ⟨true, cellsK c (List.replicate n a)⟩), nid + 1, rfl, ?_, ?_, by omega, Nat.le_refl _, Heap.size_le_new _ _ _⟩
  · simp only [mstep, ev_of hE hx, ev_of hE hy]
    rw [if_pos ⟨by omega, by omega, by omega, by rw [← Int.natCast_mul]; omega⟩]
    simp only [Int.toNat_natCast, zrep_K hc]
  · refine hS.add ?_ (by omega) hs ⟨?_, ?_, .inr ⟨nid, rfl, .inl (by have := hS.am; omega), by simp [Heap.get_new]⟩⟩ ?_
    · intro id hid; rw [Heap.get_new, if_neg (by omega)]
    · intro k hk; simp only [AV.bid, Option.some.injEq] at hk; omega
    · simp [ck_len hc]
    · intro k hk; simp only [AV.bid, Option.some.injEq] at hk; omega

/-- a part of a slice of one's own -/
def subW : AV → Nat → Nat → AV
  | .slice id off _ cap es, l, h => .slice id (off + l * es) (h - l) (cap.map (· - l)) es
  | v, _, _ => v

theorem stp_slw {A : Heap} {X : List Nat} {E : List (Nat × AV)} {S S0 : Sig} {x z : MX} {v : AV} {k n l : Nat} {cs : List AV} (hx : evE E x = some v) (hz : evE E z = some (.int .i64 (l : Int))) (hs : Sel S ⟨.rw, v, k, n, cs⟩ S0) (hl : l ≤ n) : Stp A X E S (.sl x (some z) none none k) (Is (subW v l n) S) :=
  stp_pure fun τ H m nid hE hS => by
    have hcc := (hS.sel hs).ch ⟨.rw, v, k, n, cs⟩ (by simp)
    obtain ⟨h1, h2, h3⟩ := hcc
    simp only at h1 h2 h3
    have e1 : bnd n (some (AV.int .i64 (l : Int))) 0 = some l := by
      simp only [bnd]; rw [if_pos (by omega)]; simp
    rcases h3 with ⟨rfl, h3⟩ | ⟨id, rfl, h4, h5⟩
    · subst h3
      simp only [mstep, ev_of hE hx, Option.map_some, Option.map_none, ev_of hE hz, msl, AV.len]
      have e0 : bnd 0 (none : Option AV) 0 = some 0 := rfl
      simp only [e0, e1, subW]; rfl
    · have e0 : bnd n (none : Option AV) n = some n := rfl
      simp only [mstep, ev_of hE hx, Option.map_some, Option.map_none, ev_of hE hz, msl, AV.len, e0, e1, subW]
      simp

theorem ck_mid {α : Type} {c : α → List AV} {k : Nat} (hc : Cels c k) {L M : List α} {l : Nat} : (cellsK c L).take (l * k) ++ cellsK c M ++ (cellsK c L).drop (l * k + (cellsK c M).length) = cellsK c (L.take l ++ M ++ L.drop (l + M.length)) := by
  rw [ck_take hc, ck_len hc, ← Nat.add_mul, ck_drop hc, ck_app, ck_app]

theorem stp_cpyW {α : Type} {c : α → List AV} {k : Nat} (hc : Cels c k) (hk : 0 < k) {A : Heap} {X : List Nat} {E : List (Nat × AV)} {S S0 : Sig} {x y : MX} {v u w : AV} {n l m' : Nat} {L M : List α} (hx : evE E x = some u) (hu : u = subW v l n ∨ (l = 0 ∧ u = v)) (hy : evE E y = some w) (hh : Has S w k m' (cellsK c M)) (hs : Sel S ⟨.rw, v, k, n, cellsK c L⟩ S0) (hn : n = L.length) (hm' : m' = M.length) (hl : l + m' ≤ n) :
    Stp A X E S (.cpy x y k) (Is (.int .i64 (m' : Int)) (⟨.rw, v, k, n, cellsK c (L.take l ++ M ++ L.drop (l + m'))⟩ :: S0)) := by
  refine ⟨?_⟩
  intro τ H m nid hE hS hm
  have hv := hS.valsA hh
  have hS' := hS.sel hs
  have hcc := hS'.ch ⟨.rw, v, k, n, cellsK c L⟩ (by simp)
  obtain ⟨h1, h2, h3⟩ := hcc
  simp only at h1 h2 h3
  rcases h3 with ⟨rfl, h3⟩ | ⟨id, rfl, h4, h5⟩
  · have hu' : u = .nilSlice := by rcases hu with rfl | ⟨_, rfl⟩ <;> rfl
    subst hu'
    have hL : L = [] := List.eq_nil_of_length_eq_zero (by omega)
    have hM : M = [] := List.eq_nil_of_length_eq_zero (by omega)
    subst hL; subst hM
    simp only [List.length_nil] at hm' hn
    subst hm'; subst hn
    refine ⟨.int .i64 0, _, H, m, ⟨rfl, rfl⟩, ?_, ?_, Nat.le_refl _, by omega, Nat.le_refl _⟩
    · simp only [mstep, ev_of hE hx, ev_of hE hy]
      rw [if_pos hv.sl, hv.row]
    · simpa [cellsK] using hS'
  · obtain ⟨cap, hu'⟩ : ∃ cap, u = .slice id (l * k) (n - l) cap k := by
      rcases hu with rfl | ⟨rfl, rfl⟩
      · exact ⟨(none : Option Nat).map (· - l), by simp only [subW, Nat.zero_add]⟩
      · exact ⟨none, by rw [Nat.zero_mul, Nat.sub_zero]⟩
    subst hu'
    by_cases h0 : m' = 0
    · have hM : M = [] := List.eq_nil_of_length_eq_zero (by omega)
      subst hM
      subst h0
      refine ⟨.int .i64 0, _, H, m, ⟨rfl, rfl⟩, ?_, ?_, Nat.le_refl _, by omega, Nat.le_refl _⟩
      · simp only [mstep, ev_of hE hx, ev_of hE hy]
        rw [if_pos hv.sl, hv.row]
        simp only
        rw [if_pos ⟨trivial, hk, by rw [hv.cells, hv.len]⟩, hv.len, Nat.zero_min, if_pos rfl]
      · simpa using hS'
    · have hle : l * k + m' * k ≤ n * k := by rw [← Nat.add_mul]; exact Nat.mul_le_mul_right k hl
      have hml : (cellsK c M).length = m' * k := by rw [ck_len hc, hm']
      have hH : H.write (.ptr id (l * k)) (cellsK c M) = some (H.put id (some ⟨true, cellsK c (L.take l ++ M ++ L.drop (l + m'))⟩)) := by
        simp only [Heap.write, h5]
        rw [if_pos ⟨trivial, by rw [hml, h2]; exact hle, ck_one hc M⟩, ck_mid hc, hm']
      refine ⟨.int .i64 (m' : Int), _, H.put id (some ⟨true, cellsK c (L.take l ++ M ++ L.drop (l + m'))⟩), m, ⟨rfl, rfl⟩, ?_, ?_, Nat.le_refl _, by omega, Nat.le_refl _⟩
      · simp only [mstep, ev_of hE hx, ev_of hE hy]
        rw [if_pos hv.sl, hv.row]
        simp only
        rw [if_pos ⟨trivial, hk, by rw [hv.cells, hv.len]⟩, hv.len, Nat.min_eq_left (by omega), if_neg h0, List.take_of_length_le (by omega), hH]
        rfl
      · refine hS'.mod rfl ?_ (Nat.le_refl _) hS.mh ?_ (.inl rfl)
        · intro id' _ hne
          rw [Heap.get_put, if_neg]
          intro e; subst e; exact hne rfl
        · refine ⟨h1, by simp [ck_len hc]; congr 1; omega, .inr ⟨id, rfl, h4, by simp [Heap.get_put]⟩⟩
/- points -/

def pnC (p : Int × Int) : List AV := [.int .i64 p.1, .int .i64 p.2]

theorem cels_pn : Cels pnC 2 := ⟨fun _ => rfl, fun _ => rfl⟩

abbrev pns (L : List (Int × Int)) : List AV := cellsK pnC L

abbrev pnV (p : Int × Int) : AV := .agg [.int .i64 p.1, .int .i64 p.2]

abbrev nthP (L : List (Int × Int)) (i : Nat) : Int × Int := nthA (0, 0) L i

abbrev roP (u : AV) (n : Nat) (L : List (Int × Int)) : Ch := ⟨.ro, u, 2, n, pns L⟩

abbrev rwP (u : AV) (n : Nat) (L : List (Int × Int)) : Ch := ⟨.rw, u, 2, n, pns L⟩
/- fits: a line and what it misses -/

def tabS {α : Type} (n : Nat) (f : Nat → α) : List α := (List.range n).map f

theorem tabS_len {α : Type} (n : Nat) (f : Nat → α) : (tabS n f).length = n := by simp [tabS]

theorem tabS_nth {α : Type} {d : α} {n : Nat} {f : Nat → α} {i : Nat} (h : i < n) : nthA d (tabS n f) i = f i := by
  rw [nthA_of (by rw [tabS_len]; exact h)]
  simp [tabS]

theorem tabS_set {α : Type} {n i : Nat} {f : Nat → α} {x : α} : (tabS n f).set i x = tabS n fun k => if k = i then x else f k := by
  apply List.ext_getElem
  · simp [tabS]
  · intro k h1 h2
    rw [List.getElem_set]
    simp only [tabS, List.getElem_map, List.getElem_range]
    by_cases h : i = k
    · subst h; simp
    · rw [if_neg h, if_neg (fun e => h e.symm)]

theorem tabS_congr {α : Type} {n : Nat} {f g : Nat → α} (h : ∀ i, i < n → f i = g i) : tabS n f = tabS n g := by
  unfold tabS
  exact List.map_congr_left fun i hi => h i (List.mem_range.1 hi)

theorem tabS_rep {α : Type} (n : Nat) (a : α) : List.replicate n a = tabS n fun _ => a := by
  apply List.ext_getElem
  · simp [tabS]
  · intro k h1 h2
    simp [tabS]

def ptL (xs ys : List Int) : List (Int × Int) := tabS xs.length fun k => (nth xs k, nth ys k)

theorem ptL_len (xs ys : List Int) : (ptL xs ys).length = xs.length := tabS_len _ _

theorem ptL_nth {xs ys : List Int} {i : Nat} (h : i < xs.length) : nthP (ptL xs ys) i = (nth xs i, nth ys i) := tabS_nth h

theorem insR_cons (x y : Rat) (L : List Rat) : insR x (y :: L) = if x < y then x :: y :: L else y :: insR x L := by
  unfold insR cutR
  by_cases h : x < y
  · rw [if_pos h, List.takeWhile_cons, if_neg (by simp [h])]; simp
  · rw [if_neg h, List.takeWhile_cons, if_pos (by simp [h])]; simp

theorem insR_up (x : Rat) : ∀ {L : List Rat}, L.Pairwise (· ≤ ·) → (insR x L).Pairwise (· ≤ ·)
  | [], _ => by simp [insR, cutR]
  | y :: L, h => by
    obtain ⟨h1, h2⟩ := List.pairwise_cons.1 h
    rw [insR_cons]
    split
    · rename_i h3
      refine List.pairwise_cons.2 ⟨fun z hz => ?_, h⟩
      rcases List.mem_cons.1 hz with rfl | hz
      · exact Rat.le_of_lt h3
      · exact Rat.le_trans (Rat.le_of_lt h3) (h1 z hz)
    · rename_i h3
      refine List.pairwise_cons.2 ⟨fun z hz => ?_, insR_up x h2⟩
      have hz := (insR_perm x L).mem_iff.1 hz
      rcases List.mem_append.1 hz with hz | hz
      · exact h1 z hz
      · rw [List.mem_singleton.1 hz]; exact Rat.not_lt.1 h3

theorem sortT_up (L : List Rat) : ∀ i, (sortT L i).Pairwise (· ≤ ·)
  | 0 => List.Pairwise.nil
  | i + 1 => insR_up _ (sortT_up L i)

theorem sortR_up (L : List Rat) : (sortR L).Pairwise (· ≤ ·) := sortT_up L _

theorem sortR_of {L M : List Rat} (hp : M.Perm L) (hs : M.Pairwise (· ≤ ·)) : M = sortR L :=
  List.Perm.eq_of_pairwise (le := (· ≤ ·)) (fun a b _ _ h1 h2 => Rat.le_antisymm h1 h2) hs (sortR_up L) (hp.trans (sortR_perm L).symm)

theorem sortR_len (L : List Rat) : (sortR L).length = L.length := sortT_len L _

theorem sortR_congr {L M : List Rat} (hp : M.Perm L) : sortR M = sortR L := sortR_of ((sortR_perm M).trans hp) (sortR_up M)

def SmOk (q : Rat) : Prop := (-1000000 ≤ q.num ∧ q.num ≤ 1000000) ∧ (q.den : Int) ≤ 1000000

structure SmR where
  q : Rat
  h : SmOk q

theorem SmR.ext' {x y : SmR} (h : x.q = y.q) : x = y := by
  cases x; cases y; simp only at h; subst h; rfl

abbrev inhR : Inhabited SmR := ⟨⟨0, by unfold SmOk; decide⟩⟩

theorem sm_lift : ∀ L : List Rat, (∀ q ∈ L, SmOk q) → ∃ pm : List SmR, pm.map SmR.q = L
  | [], _ => ⟨[], rfl⟩
  | q :: L, hb => by
    obtain ⟨pm, h⟩ := sm_lift L fun q hq => hb q (List.mem_cons_of_mem _ hq)
    exact ⟨⟨q, hb q (List.mem_cons_self ..)⟩ :: pm, by rw [List.map_cons, h]⟩

def encR (x : SmR) : List Value := [.int .i64 x.q.num, .int .i64 (x.q.den : Int)]

def cfR (x y : SmR) : Int := Go.Lib.compareInt (x.q.num * (y.q.den : Int)) (y.q.num * (x.q.den : Int))

theorem ltR (x y : SmR) : ltOf cfR x y = decide (x.q < y.q) := by
  have e : x.q < y.q ↔ x.q.num * (y.q.den : Int) < y.q.num * (x.q.den : Int) := Rat.lt_iff _ _
  unfold ltOf cfR Go.Lib.compareInt
  refine decide_eq_decide.2 ?_
  rw [e]
  split
  · rename_i h; exact ⟨fun _ => h, fun _ => by omega⟩
  · rename_i h
    split
    · exact ⟨fun h2 => absurd h2 (by omega), fun h2 => absurd h2 h⟩
    · exact ⟨fun h2 => absurd h2 (by omega), fun h2 => absurd h2 h⟩

theorem swoR : Go.Sort.SWO (ltOf cfR) where
  irrefl x := by rw [ltR]; simp [Rat.lt_irrefl]
  trans x y z h1 h2 := by
    rw [ltR] at *
    simp only [decide_eq_true_eq] at *
    grind
  ntrans x y z h1 h2 := by
    rw [ltR] at *
    simp only [decide_eq_false_iff_not] at *
    grind

theorem totR (x y : SmR) (h1 : ltOf cfR x y = false) (h2 : ltOf cfR y x = false) : x = y := by
  rw [ltR] at *
  simp only [decide_eq_false_iff_not] at *
  exact SmR.ext' (Rat.le_antisymm (Rat.not_lt.1 h2) (Rat.not_lt.1 h1))

theorem sm_mul {p q : Rat} (h : SmOk p) (h' : SmOk q) : -4611686018427387904 ≤ p.num * (q.den : Int) ∧ p.num * (q.den : Int) ≤ 4611686018427387904 := by
  have := absmul (k := p.num) (l := (q.den : Int)) (A := 1000000) (B := 1000000) h.1.1 h.1.2 (by have := den_pos q; omega) h'.2
  omega

theorem cmpLaysR (blk off size : Nat) (w : World) : @CmpLays SmR inhR Try.prog fn_impl_Frac_compare #[] encR 2 cfR blk off size w :=
  fun _ _ _ _ x y => sortf_cmp x.q.num (x.q.den : Int) y.q.num (y.q.den : Int) (sm_mul x.h y.h) (sm_mul y.h x.h) _

theorem flatK_list {α : Type} [Inhabited α] {enc : α → List Value} {k : Nat} (hk : ∀ x, (enc x).length = k) (l : List α) : (Go.Sort.flatK enc k l.toArray).toList = l.flatMap enc := by
  have key : ∀ n, n ≤ l.length → (List.range (n * k)).map (fun t => (enc l.toArray[t / k]!)[t % k]!) = (l.take n).flatMap enc := by
    intro n
    induction n with
    | zero => intro _; simp
    | succ n ih =>
      intro hn
      rw [Nat.add_mul, Nat.one_mul, List.range_add, List.map_append, ih (by omega), List.take_add_one, List.getElem?_eq_getElem (by omega), List.flatMap_append, List.map_map]
      congr 1
      simp only [Option.toList_some, List.flatMap_cons, List.flatMap_nil, List.append_nil]
      apply List.ext_getElem
      · simp [hk]
      · intro i h1 h2
        rw [hk] at h2
        have e1 : (n * k + i) / k = n := by
          rw [Nat.mul_comm, Nat.mul_add_div (by omega), Nat.div_eq_of_lt h2, Nat.add_zero]
        have e2 : (n * k + i) % k = i := by
          rw [Nat.mul_comm, Nat.mul_add_mod, Nat.mod_eq_of_lt h2]
        simp only [List.getElem_map, List.getElem_range, Function.comp, e1, e2]
        have e3 : l.toArray[n]! = l[n] := by simp [hn, show n < l.length by omega]
        rw [e3]
        rw [getElem!_pos (enc l[n]) i (by rw [hk]; exact h2)]
  have h := key l.length (Nat.le_refl _)
  rw [List.take_length] at h
  rw [← h]
  simp [Go.Sort.flatK]

def frsV (L : List Rat) : List Value := L.flatMap fun q => [.int .i64 q.num, .int .i64 (q.den : Int)]

theorem frs_rel {ι : Nat → Option Ref} : ∀ L : List Rat, VRelL ι (frs L) (frsV L)
  | [] => by simp [frs, frsV, VRelL]
  | q :: L => by
    have h := frs_rel (ι := ι) L
    simp only [frs, frC, frsV, List.flatMap_cons, List.cons_append, List.nil_append, VRelL, VRel] at h ⊢
    exact ⟨_, _, rfl, rfl, _, _, rfl, rfl, h⟩

theorem frs_of {ι : Nat → Option Ref} : ∀ (L : List Rat) (vs : List Value), VRelL ι (frs L) vs → vs = frsV L
  | [], vs, h => by simpa [frs, frsV, VRelL] using h
  | q :: L, vs, h => by
    simp only [frs, frC, List.cons_append, List.nil_append, VRelL, VRel] at h
    obtain ⟨v, r, rfl, rfl, v2, r2, rfl, rfl, h2⟩ := h
    rw [frs_of L r2 h2]
    simp [frsV]

theorem put_cellsV {F : Array Value} {off : Nat} {c : Array Value} (h : off + F.size ≤ c.size) : ((Go.Sort.putCells id off F c).toList.drop off).take F.size = F.toList := by
  apply List.ext_getElem
  · simp [Go.Sort.putCells]; omega
  · intro i h1 h2
    simp only [Array.length_toList] at h2
    simp [Go.Sort.putCells, h2]

theorem sortF_ok {A : Heap} {X : List Nat} {S S0 : Sig} {H : Heap} {v : AV} {L : List Rat} (hS : SOk A X S H.size H) (hs : Sel S ⟨.rw, v, 2, L.length, frs L⟩ S0) (hb : ∀ q ∈ L, SmOk q) (h0 : 0 < L.length) (hl : L.length < 1000000) :
    ACalls Try.prog fn_slices_SortFunc_impl_Frac_impl_Frac [v, .func fn_impl_Frac_compare []] H fun r H' => ∃ g : Unit, r = .tuple [] ∧ SOk A X (⟨.rw, v, 2, L.length, frs (sortR L)⟩ :: S0) H'.size H' ∧ True := by
  letI := inhR
  have hS' := hS.sel hs
  have hc := hS'.ch ⟨.rw, v, 2, L.length, frs L⟩ (by simp)
  obtain ⟨hc1, hc2, hc3⟩ := hc
  simp only at hc1 hc2 hc3
  rcases hc3 with ⟨_, h9⟩ | ⟨id, rfl, hown, hg⟩
  · omega
  intro ι w us hh hu
  obtain ⟨val, r0, hus, hv, val2, r2, hr0, hv2, hr2⟩ := hu
  simp only [VRelL] at hr2; subst hr2; subst hr0
  simp only [VRel, VRelL] at hv hv2
  obtain ⟨vs2, rfl, hvs2⟩ := hv2
  obtain rfl : vs2 = #[] := by apply Array.ext'; simpa using hvs2
  obtain ⟨r, a, c, hr, rfl, hnc, hcm, hcap, hplace⟩ := hv
  obtain ⟨rfl, hroom⟩ : a = ⟨r.row, r.off + 0, none⟩ ∧ 0 + c * 2 ≤ r.room := by
    rcases hplace with h | h
    · omega
    · exact h
  obtain ⟨r', hr', hB⟩ := hh.blk id _ hg
  rw [hr] at hr'; injection hr' with er; subst er
  unfold BlkRel at hB
  obtain ⟨cs, e, h1, h2, h3, h4⟩ := hB
  simp only [frs_len] at h3 h4
  have h5 := frs_of L _ h4
  have hlt := (Array.getElem?_eq_some_iff.1 h1).1
  -- the fractions with their bounds
  obtain ⟨pm, hpm⟩ := sm_lift L hb
  have hpl : pm.length = L.length := by rw [← hpm, List.length_map]
  have hek : ∀ x : SmR, (encR x).length = 2 := fun _ => rfl
  have hfl : ∀ l : List SmR, l.flatMap encR = frsV (l.map SmR.q) := fun l => by
    unfold frsV; rw [List.flatMap_map]; rfl
  have hF : (Go.Sort.flatK encR 2 pm.toArray).toList = frsV L := by rw [flatK_list hek, hfl, hpm]
  have hFs : (Go.Sort.flatK encR 2 pm.toArray).size = L.length * 2 := by rw [Go.Sort.size_flatK]; simp [hpl]
  have hholds : Go.Sort.HoldsK encR 2 w r.row r.off pm.toArray := by
    intro j hj
    refine ⟨?_, ?_⟩
    · have hj2 : j < L.length * 2 := by rw [← hFs]; exact hj
      have : (frsV L)[j]? = some ((Go.Sort.flatK encR 2 pm.toArray)[j]!) := by
        rw [← hF, Array.getElem?_toList, getElem!_pos _ j hj, Array.getElem?_eq_getElem hj]
      rw [← h5, List.getElem?_take_of_lt hj2, List.getElem?_drop, Array.getElem?_toList] at this
      simp only [World.cell?, h1]
      simpa using this
    · simp [World.frozen?, h1]
  obtain rfl : us = #[.slice (some ⟨r.row, r.off, none⟩) L.length c, .func (.func fn_impl_Frac_compare) #[] #[]] := by
    apply Array.ext'
    rw [hus]; simp
  have hcon := AnyQ.slices_SortFunc_total sortf_lays 2 sortf_agg sortf_size encR hek (fun x v hv => by simp [encR] at hv; rcases hv with rfl | rfl <;> rfl) cfR swoR fn_impl_Frac_compare #[] r.row r.off c pm.toArray w sortf_enters (cmpLaysR _ _ _ _) hholds hlt (by simp [hpl]; omega) totR
  have hps : pm.toArray.size = L.length := by simp [hpl]
  rw [hps] at hcon
  refine Calls.mono (show Calls Try.prog fn_slices_SortFunc_impl_Frac_impl_Frac _ _ _ from hcon) ?_
  rintro en w' ⟨rfl, n, os, rfl⟩
  obtain ⟨M, hM⟩ : ∃ M, M = (pm.toArray.toList.mergeSort fun x y => !(ltOf cfR) y x) := ⟨_, rfl⟩
  rw [← hM]
  have hMs : M.map SmR.q = sortR L := by
    refine sortR_of ?_ ?_
    · rw [hM, ← hpm]
      exact ((List.mergeSort_perm _ _).trans (List.Perm.refl _)).map _
    · rw [List.pairwise_map, hM]
      have := List.pairwise_mergeSort (le := fun x y : SmR => !(ltOf cfR) y x) (fun a b c h1 h2 => by
        simp only [Bool.not_eq_true', ltR, decide_eq_false_iff_not] at *
        grind) (fun a b => by
        simp only [Bool.or_eq_true, Bool.not_eq_true', ltR, decide_eq_false_iff_not]
        rcases Rat.le_total (a := a.q) (b := b.q) with h | h
        · exact .inl (Rat.not_lt.2 h)
        · exact .inr (Rat.not_lt.2 h)) pm.toArray.toList
      exact this.imp fun h => by
        simp only [Bool.not_eq_true', ltR, decide_eq_false_iff_not] at h
        exact Rat.not_lt.1 h
  have hMl : M.length = L.length := by
    have := congrArg List.length hMs
    rwa [List.length_map, sortR_len] at this
  have hG : (Go.Sort.flatK encR 2 M.toArray).toList = frsV (sortR L) := by rw [flatK_list hek, hfl, hMs]
  have hGs : (Go.Sort.flatK encR 2 M.toArray).size = L.length * 2 := by rw [Go.Sort.size_flatK]; simp [hMl]
  have hfl2 : (frs (sortR L)).length = L.length * 2 := by rw [frs_len, sortR_len]
  have hg1 : (Go.Sort.putRowK encR 2 (Go.Sort.ahead w n) r.row r.off M.toArray).heap[r.row]? = some (.cells (Go.Sort.putCells _root_.id r.off (Go.Sort.flatK encR 2 M.toArray) cs) e (0, 0)) := by
    simp [Go.Sort.putRowK, Go.Sort.putRow, Go.Sort.mapBlock, Go.Sort.ahead, Array.getElem?_modify, h1, Go.Sort.onCells]
  have hsame : ∀ k, k ≠ r.row → (Go.Sort.putRowK encR 2 (Go.Sort.ahead w n) r.row r.off M.toArray).heap[k]? = w.heap[k]? := by
    intro k hk
    simp [Go.Sort.putRowK, Go.Sort.putRow, Go.Sort.mapBlock, Go.Sort.ahead, Array.getElem?_modify, Ne.symm hk]
  have hps2 : (Go.Sort.putCells _root_.id r.off (Go.Sort.flatK encR 2 M.toArray) cs).size = cs.size := by simp [Go.Sort.putCells]
  have hrel : HRel ι (H.put id (some ⟨true, frs (sortR L)⟩)) (Go.Sort.putRowK encR 2 (Go.Sort.ahead w n) r.row r.off M.toArray) := by
    refine hh.rewrite hg rfl hr hg1 hsame (by rw [hps2]; exact h2) (by omega) ?_
    rw [hfl2, ← hGs, put_cellsV (by omega), hG]
    exact frs_rel _
  have hsz : (Go.Sort.putRowK encR 2 (Go.Sort.ahead w n) r.row r.off M.toArray).heap.size = w.heap.size := by simp [Go.Sort.putRowK, Go.Sort.putRow, Go.Sort.mapBlock, Go.Sort.ahead]
  have hkeep : ∀ k, k < w.heap.size → (Go.Sort.grow (Go.Sort.putRowK encR 2 (Go.Sort.ahead w n) r.row r.off M.toArray) os).heap[k]? = (Go.Sort.putRowK encR 2 (Go.Sort.ahead w n) r.row r.off M.toArray).heap[k]? := by
    intro k hk
    simp only [Go.Sort.grow]
    rw [Array.getElem?_append_left (by rw [hsz]; exact hk)]
  refine ⟨.tuple [], .tuple #[], H.put id (some ⟨true, frs (sortR L)⟩), ι, rfl, ⟨(), rfl, ?_, trivial⟩, by simp [VRel, VRelL], grownRel hrel (by rw [hsz]; exact hkeep), ?_⟩
  · refine hS'.mod rfl ?_ (Nat.le_refl _) hS.mh ?_ (.inl rfl)
    · intro id' _ hne
      rw [Heap.get_put, if_neg]
      intro e; subst e; exact hne rfl
    · exact ⟨hc1, by simp [hfl2], .inr ⟨id, rfl, hown, by simp [Heap.get_put]⟩⟩
  · have hx := HExt.rewrite (w' := Go.Sort.putRowK encR 2 (Go.Sort.ahead w n) r.row r.off M.toArray) (hh.id_lt hg) hg rfl hr (Nat.le_of_eq hsz.symm) rfl rfl rfl hsame (cs := frs (sortR L))
    exact ⟨hx.le, hx.size, by unfold sortWorldK; simp only [Go.Sort.grow, Array.size_append]; rw [hsz]; omega, rfl, rfl, rfl, fun k hk g1 g2 => (hkeep k hk).trans (hx.rows k hk g1 g2), hx.news, hx.newo⟩

theorem validPlace_ok {H : Heap} {x : Int} : ACalls Try.prog fn_impl_validPlace [.int .i64 x] H fun r H' => r = .bool (decide (-12 ≤ x ∧ x ≤ 12)) ∧ H' = H := by
  refine ACalls.val ?_ rfl
  refine code_impl_validPlace.go [] trivial (by simp) ?_
  unfold mc_impl_validPlace
  (repeat (first | refine gst (hk := ?_) | (show GO _ _ _ _ _ (⟨some _, none, _⟩ :: _) _; first | refine go_op (hk := ?_) | (refine go_nw (hk := ?_); intro u; try simp only [llc, lln, lna, lza]) | (refine go_np (hk := ?_); intro id)) | (show GO _ _ _ _ _ (⟨none, none, _⟩ :: _) _; refine go_st (hk := ?_)) | (show GO _ _ _ _ _ (⟨_, some _, _⟩ :: _) _; first | refine go_in (hk := ?_) | refine go_out (hk := ?_) | refine go_void (hk := ?_)) | (show GK _ _ _ _ (blockK _ _ _); refine gk_past rfl ?_) | (show GC _ _ _ _ _ (.cond _ _ _) _; first | refine gc_yes (h1 := ?_) | refine gc_no (h1 := ?_))))
  refine go_split 5 rfl (fun h => ?_) (fun h => ?_)
  · (repeat (first | refine gst (hk := ?_) | (show GO _ _ _ _ _ (⟨some _, none, _⟩ :: _) _; first | refine go_op (hk := ?_) | (refine go_nw (hk := ?_); intro u; try simp only [llc, lln, lna, lza]) | (refine go_np (hk := ?_); intro id)) | (show GO _ _ _ _ _ (⟨none, none, _⟩ :: _) _; refine go_st (hk := ?_)) | (show GO _ _ _ _ _ (⟨_, some _, _⟩ :: _) _; first | refine go_in (hk := ?_) | refine go_out (hk := ?_) | refine go_void (hk := ?_)) | (show GK _ _ _ _ (blockK _ _ _); refine gk_past rfl ?_) | (show GC _ _ _ _ _ (.cond _ _ _) _; first | refine gc_yes (h1 := ?_) | refine gc_no (h1 := ?_))))
    exact gk_ret rfl fun H' hH => ⟨by
      simp only [tupleOf]; congr 1
      exact decide_eq_decide.2 ⟨fun h2 => ⟨by omega, h2⟩, fun h2 => h2.2⟩, hH.leE⟩
  · (repeat (first | refine gst (hk := ?_) | (show GO _ _ _ _ _ (⟨some _, none, _⟩ :: _) _; first | refine go_op (hk := ?_) | (refine go_nw (hk := ?_); intro u; try simp only [llc, lln, lna, lza]) | (refine go_np (hk := ?_); intro id)) | (show GO _ _ _ _ _ (⟨none, none, _⟩ :: _) _; refine go_st (hk := ?_)) | (show GO _ _ _ _ _ (⟨_, some _, _⟩ :: _) _; first | refine go_in (hk := ?_) | refine go_out (hk := ?_) | refine go_void (hk := ?_)) | (show GK _ _ _ _ (blockK _ _ _); refine gk_past rfl ?_) | (show GC _ _ _ _ _ (.cond _ _ _) _; first | refine gc_yes (h1 := ?_) | refine gc_no (h1 := ?_))))
    exact gk_ret rfl fun H' hH => ⟨by
      simp only [tupleOf]; congr 1
      exact (decide_eq_false fun h2 => h (by omega)).symm, hH.leE⟩

def PtsM (xs ys : List Int) (m : Nat) : Prop := (xs.length = ys.length ∧ 1 ≤ xs.length ∧ xs.length ≤ m) ∧ PtsT xs ys xs.length

noncomputable instance (xs ys : List Int) (m : Nat) : Decidable (PtsM xs ys m) := Classical.propDecidable _

end Go.Rx.Try
