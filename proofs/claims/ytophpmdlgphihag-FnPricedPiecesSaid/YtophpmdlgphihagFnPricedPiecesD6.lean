import Derived.Test.YtophpmdlgphihagFnPricedPiecesD5
namespace Go.Rx.Try
open Go.Proofs
set_option maxRecDepth 100000
set_option maxHeartbeats 8000000
set_option linter.unusedSimpArgs false
set_option linter.unusedVariables false

theorem bestCuts_ok {f : FuncId} {c : Nat → Nat → Rat} {H : Heap} {a : AV} {xs : List Int} (ha : Ints H a xs) (hS : Steps xs) (hcf : Callable Try.prog f)
    (hf : ∀ {H1 : Heap} {b : AV} {s k : Nat}, s < k → k ≤ xs.length → Ints H1 b (winL xs s k) → ACalls Try.prog f [b] H1 fun r H' => r = frV (c s k) ∧ Le H1 H')
    (hfd : ∀ q k v, Cuts (· + ·) c q 0 k v → k ≤ xs.length → FD v 840 1000000000) (hfc : ∀ s k, s < k → k ≤ xs.length → FD (c s k) 840 1000000000) :
    ACalls Try.prog fn_impl_bestCuts [a, .func f []] H fun r H' => ∃ m0 L clk, r = .map m0 ∧ (H.size ≤ H'.size ∧ ∀ i, i < H.size → H'.get i = H.get i) ∧ H.ob m0 = none ∧ (∀ j, j ≠ m0 → H'.ob j = H.ob j) ∧ MpO H'.ob m0 (L.map ceM) clk ∧ CutsOk L clk ∧ FrontC L (SC c xs.length) := by
  have hn := hS.2.2
  have hn1 := hS.2.1
  have scfd : ∀ {q k v}, SC c k q v → k ≤ xs.length → FD v 840 1000000000 ∧ q ≤ 8 := fun {q k v} h hk => by
    rcases h with ⟨_, rfl, rfl⟩ | h
    · exact ⟨fd_zero (by omega) (by omega), by omega⟩
    · have := h.lt
      exact ⟨hfd _ _ _ h hk, by omega⟩
  refine acalls_obs (R := fun r H' => ∃ m0 L clk, r = .map m0 ∧ ∃ ob S, SOk (H.obs ob) [] S H'.size H' ∧ ExO H.ob ob [] ∧ H.ob m0 = none ∧ MpO ob m0 (L.map ceM) clk ∧ CutsOk L clk ∧ FrontC L (SC c xs.length)) ?_ ?_
  rotate_left
  · rintro r H' ⟨m0, L, clk, rfl, ob, S, h1, h2, h0, h3, h4, h5⟩
    have hob : H'.ob = ob := h1.le.ob
    refine ⟨fun j => if j = m0 then ob m0 else H.ob j, ⟨m0, L, clk, rfl, ⟨h1.le.size, fun i hi => h1.le.get i hi (by simp)⟩, h0, fun j hj => by simp [hj], mp_eq h3 (by simp), h4, h5⟩, fun i o hi => ?_⟩
    rw [hob]
    by_cases e : i = m0
    · subst e; simpa using hi
    · simp only [e, if_false] at hi; exact h2 i o (by simp) hi
  refine code_impl_bestCuts.go [.roI a xs.length xs] ⟨⟨rfl, ha⟩, trivial⟩ (by simp) ?_
  unfold mc_impl_bestCuts
  change GC Try.prog (H.obs H.ob) [] _ _ _ _
  (repeat (first | refine gst (hk := ?_) | (show GO _ _ _ _ _ (⟨some _, none, _⟩ :: _) _; first | refine go_op (hk := ?_) | (refine go_nw (hk := ?_); intro u; try simp only [llc, lln, lna, lza]) | (refine go_np (hk := ?_); intro id)) | (show GO _ _ _ _ _ (⟨none, none, _⟩ :: _) _; refine go_st (hk := ?_)) | (show GO _ _ _ _ _ (⟨_, some _, _⟩ :: _) _; first | refine go_in (hk := ?_) | refine go_out (hk := ?_) | refine go_void (hk := ?_)) | (show GK _ _ _ _ (blockK _ _ _); refine gk_past rfl ?_) | (show GC _ _ _ _ _ (.cond _ _ _) _; first | refine gc_yes (h1 := ?_) | refine gc_no (h1 := ?_))))
  refine go_mk (fun m0 hm0 => ?_)
  (repeat (first | refine gst (hk := ?_) | (show GO _ _ _ _ _ (⟨some _, none, _⟩ :: _) _; first | refine go_op (hk := ?_) | (refine go_nw (hk := ?_); intro u; try simp only [llc, lln, lna, lza]) | (refine go_np (hk := ?_); intro id)) | (show GO _ _ _ _ _ (⟨none, none, _⟩ :: _) _; refine go_st (hk := ?_)) | (show GO _ _ _ _ _ (⟨_, some _, _⟩ :: _) _; first | refine go_in (hk := ?_) | refine go_out (hk := ?_) | refine go_void (hk := ?_)) | (show GK _ _ _ _ (blockK _ _ _); refine gk_past rfl ?_) | (show GC _ _ _ _ _ (.cond _ _ _) _; first | refine gc_yes (h1 := ?_) | refine gc_no (h1 := ?_))))
  refine go_callp rfl code_impl_whole.callable (fun H hH => implWhole_ok (n := 0)) ?_
  refine go_up rfl rfl rfl mp_same (by rfl) ?_
  (repeat (first | refine gst (hk := ?_) | (show GO _ _ _ _ _ (⟨some _, none, _⟩ :: _) _; first | refine go_op (hk := ?_) | (refine go_nw (hk := ?_); intro u; try simp only [llc, lln, lna, lza]) | (refine go_np (hk := ?_); intro id)) | (show GO _ _ _ _ _ (⟨none, none, _⟩ :: _) _; refine go_st (hk := ?_)) | (show GO _ _ _ _ _ (⟨_, some _, _⟩ :: _) _; first | refine go_in (hk := ?_) | refine go_out (hk := ?_) | refine go_void (hk := ?_)) | (show GK _ _ _ _ (blockK _ _ _); refine gk_past rfl ?_) | (show GC _ _ _ _ _ (.cond _ _ _) _; first | refine gc_yes (h1 := ?_) | refine gc_no (h1 := ?_))))
  refine go_new rfl (stp_bslv rfl rfl rfl) ?_
  intro v0
  (repeat (first | refine gst (hk := ?_) | (show GO _ _ _ _ _ (⟨some _, none, _⟩ :: _) _; first | refine go_op (hk := ?_) | (refine go_nw (hk := ?_); intro u; try simp only [llc, lln, lna, lza]) | (refine go_np (hk := ?_); intro id)) | (show GO _ _ _ _ _ (⟨none, none, _⟩ :: _) _; refine go_st (hk := ?_)) | (show GO _ _ _ _ _ (⟨_, some _, _⟩ :: _) _; first | refine go_in (hk := ?_) | refine go_out (hk := ?_) | refine go_void (hk := ?_)) | (show GK _ _ _ _ (blockK _ _ _); refine gk_past rfl ?_) | (show GC _ _ _ _ _ (.cond _ _ _) _; first | refine gc_yes (h1 := ?_) | refine gc_no (h1 := ?_))))
  have f0 : FrontC [⟨0, ((0 : Int) : Rat), 0⟩] (SC c 0) := by
    refine ⟨fun e he => ?_, fun p v hp => ?_, fun e he e' he' hlt => ?_⟩
    · rw [List.mem_singleton] at he; subst he; exact .inl ⟨rfl, rfl, rfl⟩
    · rcases hp with ⟨_, rfl, rfl⟩ | hp
      · exact ⟨_, List.mem_singleton.2 rfl, Nat.le_refl _, Rat.le_refl⟩
      · have := hp.lt; omega
    · rw [List.mem_singleton] at he he'; subst he; subst he'; simp at hlt
  refine gc_loopA (γ := (Nat → Option OB) × AV × List Nat) (fun g => g.1) (fun g => [(0, a), (1, .func f []), (5, g.2.1), (6, .int .i64 (g.2.2.length : Int))]) (fun g => [⟨.rw, g.2.1, 1, g.2.2.length, g.2.2.map AV.map⟩, .roI a xs.length xs])
    (fun g => 1 ≤ g.2.2.length ∧ g.2.2.length ≤ xs.length + 1 ∧ (∀ i m, g.2.2[i]? = some m → GoodM c g.1 m i) ∧ ExO H.ob g.1 [] ∧ ∀ m ∈ g.2.2, H.ob m = none) (fun g => xs.length + 1 - g.2.2.length)
    (_, v0, [m0]) ?_ (by (repeat (refine Cov.cons (by exact rfl) ?_)); exact Cov.nil) (by exact Sub.auto) ?_
  · refine ⟨by simp, by simp, fun i m h => ?_, ((ExO.refl _ _).new hm0 _).mod (.inl hm0) _, fun m h => by rw [List.mem_singleton.1 h]; exact hm0⟩
    cases i with
    | zero =>
      simp only [List.getElem?_cons_zero, Option.some.injEq] at h; subst h
      exact ⟨[⟨0, ((0 : Int) : Rat), 0⟩], 1, mp_same, ⟨by simp, by simp, by simp⟩, f0⟩
    | succ i => simp at h
  rintro ⟨ob, v, ms⟩ ⟨g1, g2, g3, g4, g5⟩ I ν mm hk
  dsimp only at g1 g2 g3 g4 g5 hk ⊢
  (repeat (first | refine gst (hk := ?_) | (show GO _ _ _ _ _ (⟨some _, none, _⟩ :: _) _; first | refine go_op (hk := ?_) | (refine go_nw (hk := ?_); intro u; try simp only [llc, lln, lna, lza]) | (refine go_np (hk := ?_); intro id)) | (show GO _ _ _ _ _ (⟨none, none, _⟩ :: _) _; refine go_st (hk := ?_)) | (show GO _ _ _ _ _ (⟨_, some _, _⟩ :: _) _; first | refine go_in (hk := ?_) | refine go_out (hk := ?_) | refine go_void (hk := ?_)) | (show GK _ _ _ _ (blockK _ _ _); refine gk_past rfl ?_) | (show GC _ _ _ _ _ (.cond _ _ _) _; first | refine gc_yes (h1 := ?_) | refine gc_no (h1 := ?_))))
  refine gc_cond rfl (fun h => ?_) (fun h => ?_)
  rotate_left
  · have el : ms.length = xs.length + 1 := by omega
    obtain ⟨m, hm⟩ : ∃ m, ms[xs.length]? = some m := ⟨ms[xs.length]'(by omega), List.getElem?_eq_getElem (by omega)⟩
    obtain ⟨L, clk, k1, k2, k3⟩ := g3 _ m hm
    (repeat (first | refine gst (hk := ?_) | (show GO _ _ _ _ _ (⟨some _, none, _⟩ :: _) _; first | refine go_op (hk := ?_) | (refine go_nw (hk := ?_); intro u; try simp only [llc, lln, lna, lza]) | (refine go_np (hk := ?_); intro id)) | (show GO _ _ _ _ _ (⟨none, none, _⟩ :: _) _; refine go_st (hk := ?_)) | (show GO _ _ _ _ _ (⟨_, some _, _⟩ :: _) _; first | refine go_in (hk := ?_) | refine go_out (hk := ?_) | refine go_void (hk := ?_)) | (show GK _ _ _ _ (blockK _ _ _); refine gk_past rfl ?_) | (show GC _ _ _ _ _ (.cond _ _ _) _; first | refine gc_yes (h1 := ?_) | refine gc_no (h1 := ?_))))
    refine go_is rfl (stp_ldV (i := xs.length) rfl (by exact Has.auto) (by simp) (by simp; omega)) ?_
    rw [nthV_map hm]
    (repeat (first | refine gst (hk := ?_) | (show GO _ _ _ _ _ (⟨some _, none, _⟩ :: _) _; first | refine go_op (hk := ?_) | (refine go_nw (hk := ?_); intro u; try simp only [llc, lln, lna, lza]) | (refine go_np (hk := ?_); intro id)) | (show GO _ _ _ _ _ (⟨none, none, _⟩ :: _) _; refine go_st (hk := ?_)) | (show GO _ _ _ _ _ (⟨_, some _, _⟩ :: _) _; first | refine go_in (hk := ?_) | refine go_out (hk := ?_) | refine go_void (hk := ?_)) | (show GK _ _ _ _ (blockK _ _ _); refine gk_past rfl ?_) | (show GC _ _ _ _ _ (.cond _ _ _) _; first | refine gc_yes (h1 := ?_) | refine gc_no (h1 := ?_))))
    exact gk_ret rfl fun H' hH => ⟨m, L, clk, rfl, _, _, hH, g4, g5 m (List.mem_of_getElem? hm), k1, k2, k3⟩
  (repeat (first | refine gst (hk := ?_) | (show GO _ _ _ _ _ (⟨some _, none, _⟩ :: _) _; first | refine go_op (hk := ?_) | (refine go_nw (hk := ?_); intro u; try simp only [llc, lln, lna, lza]) | (refine go_np (hk := ?_); intro id)) | (show GO _ _ _ _ _ (⟨none, none, _⟩ :: _) _; refine go_st (hk := ?_)) | (show GO _ _ _ _ _ (⟨_, some _, _⟩ :: _) _; first | refine go_in (hk := ?_) | refine go_out (hk := ?_) | refine go_void (hk := ?_)) | (show GK _ _ _ _ (blockK _ _ _); refine gk_past rfl ?_) | (show GC _ _ _ _ _ (.cond _ _ _) _; first | refine gc_yes (h1 := ?_) | refine gc_no (h1 := ?_))))
  refine go_mk (fun nx hnx => ?_)
  have x1 : H.ob nx = none := g4.gone (by simp) hnx
  have nin : ∀ {i m}, ms[i]? = some m → m ≠ nx := fun {i m} h => by
    obtain ⟨L, clk, k1, _⟩ := g3 i m h
    exact mp_fresh k1 hnx
  (repeat (first | refine gst (hk := ?_) | (show GO _ _ _ _ _ (⟨some _, none, _⟩ :: _) _; first | refine go_op (hk := ?_) | (refine go_nw (hk := ?_); intro u; try simp only [llc, lln, lna, lza]) | (refine go_np (hk := ?_); intro id)) | (show GO _ _ _ _ _ (⟨none, none, _⟩ :: _) _; refine go_st (hk := ?_)) | (show GO _ _ _ _ _ (⟨_, some _, _⟩ :: _) _; first | refine go_in (hk := ?_) | refine go_out (hk := ?_) | refine go_void (hk := ?_)) | (show GK _ _ _ _ (blockK _ _ _); refine gk_past rfl ?_) | (show GC _ _ _ _ _ (.cond _ _ _) _; first | refine gc_yes (h1 := ?_) | refine gc_no (h1 := ?_))))
  refine gc_loopA (γ := (Nat → Option OB) × Nat) (fun g => g.1) (fun g => [(0, a), (1, .func f []), (5, v), (6, .int .i64 (ms.length : Int)), (7, .map nx), (24, v), (25, .int .i64 (ms.length : Int)), (26, .int .i64 (g.2 : Int))]) (fun g => [⟨.rw, v, 1, ms.length, ms.map AV.map⟩, .roI a xs.length xs])
    (fun g => g.2 ≤ ms.length ∧ (∀ i m, ms[i]? = some m → GoodM c g.1 m i) ∧ ExO H.ob g.1 [] ∧ ∃ L clk, MpO g.1 nx (L.map ceM) clk ∧ CutsOk L clk ∧ FrontC L (TC c g.2 ms.length)) (fun g => ms.length - g.2)
    (seo ob nx (obM (.map [] 0)), 0) ⟨Nat.zero_le _, fun i m hm => (g3 i m hm).seo (nin hm), g4.new hnx _, [], 0, mp_same, ⟨by simp, by simp, by simp⟩, ⟨by simp, fun p v ⟨s, hs, _⟩ => by omega, by simp⟩⟩ (by (repeat (refine Cov.cons (by exact rfl) ?_)); exact Cov.nil) (by exact Sub.auto) ?_
  rintro ⟨ob2, i⟩ ⟨p1, p2, p3, Ln, kn, p4, p5, p6⟩ I2 ν2 mm2 hk2
  dsimp only at p1 p2 p3 p4 p6 hk2 ⊢
  (repeat (first | refine gst (hk := ?_) | (show GO _ _ _ _ _ (⟨some _, none, _⟩ :: _) _; first | refine go_op (hk := ?_) | (refine go_nw (hk := ?_); intro u; try simp only [llc, lln, lna, lza]) | (refine go_np (hk := ?_); intro id)) | (show GO _ _ _ _ _ (⟨none, none, _⟩ :: _) _; refine go_st (hk := ?_)) | (show GO _ _ _ _ _ (⟨_, some _, _⟩ :: _) _; first | refine go_in (hk := ?_) | refine go_out (hk := ?_) | refine go_void (hk := ?_)) | (show GK _ _ _ _ (blockK _ _ _); refine gk_past rfl ?_) | (show GC _ _ _ _ _ (.cond _ _ _) _; first | refine gc_yes (h1 := ?_) | refine gc_no (h1 := ?_))))
  refine gc_cond rfl (fun h2 => ?_) (fun h2 => ?_)
  rotate_left
  · obtain rfl : i = ms.length := by omega
    (repeat (first | refine gst (hk := ?_) | (show GO _ _ _ _ _ (⟨some _, none, _⟩ :: _) _; first | refine go_op (hk := ?_) | (refine go_nw (hk := ?_); intro u; try simp only [llc, lln, lna, lza]) | (refine go_np (hk := ?_); intro id)) | (show GO _ _ _ _ _ (⟨none, none, _⟩ :: _) _; refine go_st (hk := ?_)) | (show GO _ _ _ _ _ (⟨_, some _, _⟩ :: _) _; first | refine go_in (hk := ?_) | refine go_out (hk := ?_) | refine go_void (hk := ?_)) | (show GK _ _ _ _ (blockK _ _ _); refine gk_past rfl ?_) | (show GC _ _ _ _ _ (.cond _ _ _) _; first | refine gc_yes (h1 := ?_) | refine gc_no (h1 := ?_))))
    refine go_new rfl (stp_bslv rfl rfl rfl) ?_
    intro w
    refine go_new rfl (stp_app (v := v) (es := 1) (n := ms.length) (m' := 1) (cs := ms.map AV.map) (news := [.map nx]) rfl rfl (by exact Sel.auto) .rw (by simp [AV.one]) (by omega) (by omega) (by omega)) ?_
    intro v'
    (repeat (first | refine gst (hk := ?_) | (show GO _ _ _ _ _ (⟨some _, none, _⟩ :: _) _; first | refine go_op (hk := ?_) | (refine go_nw (hk := ?_); intro u; try simp only [llc, lln, lna, lza]) | (refine go_np (hk := ?_); intro id)) | (show GO _ _ _ _ _ (⟨none, none, _⟩ :: _) _; refine go_st (hk := ?_)) | (show GO _ _ _ _ _ (⟨_, some _, _⟩ :: _) _; first | refine go_in (hk := ?_) | refine go_out (hk := ?_) | refine go_void (hk := ?_)) | (show GK _ _ _ _ (blockK _ _ _); refine gk_past rfl ?_) | (show GC _ _ _ _ _ (.cond _ _ _) _; first | refine gc_yes (h1 := ?_) | refine gc_no (h1 := ?_))))
    have hk1 := hk (ob2, v', ms ++ [nx]) ⟨by simp, by simp; omega, fun i m hm => ?_, p3, fun m hm => ?_⟩ (by simp; omega)
    · simp only [List.length_append, List.length_singleton, List.map_append, List.map_cons, List.map_nil] at hk1
      exact gk_next hk1
    · rw [List.getElem?_append] at hm
      split at hm
      · exact p2 i m hm
      · rename_i hlt
        have : i = ms.length := by
          have := (List.getElem?_eq_some_iff.1 hm).1
          simp at this; omega
        subst this
        simp only [Nat.sub_self, List.getElem?_cons_zero, Option.some.injEq] at hm; subst hm
        exact ⟨Ln, kn, p4, p5, p6.same fun q v => ⟨fun h => h.sc (Nat.le_refl _), fun h => h.tc g1⟩⟩
    · rcases List.mem_append.1 hm with h | h
      · exact g5 m h
      · rw [List.mem_singleton.1 h]; exact x1
  have hi : i < ms.length := by omega
  obtain ⟨m, hm⟩ : ∃ m, ms[i]? = some m := ⟨ms[i]'hi, List.getElem?_eq_getElem hi⟩
  obtain ⟨Li, ki, q1, q2, q3⟩ := p2 i m hm
  have hmn := nin hm
  (repeat (first | refine gst (hk := ?_) | (show GO _ _ _ _ _ (⟨some _, none, _⟩ :: _) _; first | refine go_op (hk := ?_) | (refine go_nw (hk := ?_); intro u; try simp only [llc, lln, lna, lza]) | (refine go_np (hk := ?_); intro id)) | (show GO _ _ _ _ _ (⟨none, none, _⟩ :: _) _; refine go_st (hk := ?_)) | (show GO _ _ _ _ _ (⟨_, some _, _⟩ :: _) _; first | refine go_in (hk := ?_) | refine go_out (hk := ?_) | refine go_void (hk := ?_)) | (show GK _ _ _ _ (blockK _ _ _); refine gk_past rfl ?_) | (show GC _ _ _ _ _ (.cond _ _ _) _; first | refine gc_yes (h1 := ?_) | refine gc_no (h1 := ?_))))
  refine go_is rfl (stp_ldV (i := i) rfl (by exact Has.auto) (by simp) (by simp; omega)) ?_
  rw [nthV_map hm]
  (repeat (first | refine gst (hk := ?_) | (show GO _ _ _ _ _ (⟨some _, none, _⟩ :: _) _; first | refine go_op (hk := ?_) | (refine go_nw (hk := ?_); intro u; try simp only [llc, lln, lna, lza]) | (refine go_np (hk := ?_); intro id)) | (show GO _ _ _ _ _ (⟨none, none, _⟩ :: _) _; refine go_st (hk := ?_)) | (show GO _ _ _ _ _ (⟨_, some _, _⟩ :: _) _; first | refine go_in (hk := ?_) | refine go_out (hk := ?_) | refine go_void (hk := ?_)) | (show GK _ _ _ _ (blockK _ _ _); refine gk_past rfl ?_) | (show GC _ _ _ _ _ (.cond _ _ _) _; first | refine gc_yes (h1 := ?_) | refine gc_no (h1 := ?_))))
  refine go_new rfl (stp_slI (l := i) (h := ms.length) rfl (by exact Sel.auto) (.inr ⟨_, rfl, rfl⟩) (.inr ⟨_, rfl, rfl⟩) (by omega)) ?_
  intro w
  rw [show (xs.drop i).take (ms.length - i) = winL xs i ms.length from rfl]
  refine go_callvv rfl rfl hcf (fun H1 hH => hf (s := i) (k := ms.length) hi (by omega) (hH.ints (by exact Has.auto))) ?_
  (repeat (first | refine gst (hk := ?_) | (show GO _ _ _ _ _ (⟨some _, none, _⟩ :: _) _; first | refine go_op (hk := ?_) | (refine go_nw (hk := ?_); intro u; try simp only [llc, lln, lna, lza]) | (refine go_np (hk := ?_); intro id)) | (show GO _ _ _ _ _ (⟨none, none, _⟩ :: _) _; refine go_st (hk := ?_)) | (show GO _ _ _ _ _ (⟨_, some _, _⟩ :: _) _; first | refine go_in (hk := ?_) | refine go_out (hk := ?_) | refine go_void (hk := ?_)) | (show GK _ _ _ _ (blockK _ _ _); refine gk_past rfl ?_) | (show GC _ _ _ _ _ (.cond _ _ _) _; first | refine gc_yes (h1 := ?_) | refine gc_no (h1 := ?_))))
  revert id; intro i10
  refine go_rg rfl q1 (fun it hit => ?_)
  have x2 : H.ob it = none := p3.gone (by simp) hit
  have hitn : it ≠ nx := (mp_fresh p4 hit).symm
  have hcfd := hfc i ms.length hi (by omega)
  (repeat (first | refine gst (hk := ?_) | (show GO _ _ _ _ _ (⟨some _, none, _⟩ :: _) _; first | refine go_op (hk := ?_) | (refine go_nw (hk := ?_); intro u; try simp only [llc, lln, lna, lza]) | (refine go_np (hk := ?_); intro id)) | (show GO _ _ _ _ _ (⟨none, none, _⟩ :: _) _; refine go_st (hk := ?_)) | (show GO _ _ _ _ _ (⟨_, some _, _⟩ :: _) _; first | refine go_in (hk := ?_) | refine go_out (hk := ?_) | refine go_void (hk := ?_)) | (show GK _ _ _ _ (blockK _ _ _); refine gk_past rfl ?_) | (show GC _ _ _ _ _ (.cond _ _ _) _; first | refine gc_yes (h1 := ?_) | refine gc_no (h1 := ?_))))
  refine gc_loopA (γ := (Nat → Option OB) × List Nat × Nat) (fun g => g.1) (fun g => [(0, a), (1, .func f []), (5, v), (6, .int .i64 (ms.length : Int)), (7, .map nx), (10, .ptr i10 0), (24, v), (25, .int .i64 (ms.length : Int)), (26, .int .i64 (i : Int)), (38, .ptr it 0)]) (fun g => [celF i10 (c i ms.length), ⟨.rw, v, 1, ms.length, ms.map AV.map⟩, .roI a xs.length xs])
    (fun g => (∀ j m, ms[j]? = some m → GoodM c g.1 m j) ∧ MpO g.1 m (Li.map ceM) ki ∧ ItO g.1 it m ki g.2.1 g.2.2 ∧ ki ≤ g.2.2 ∧ ExO H.ob g.1 [] ∧ GoneC Li g.2.1 ∧ ∃ L clk, MpO g.1 nx (L.map ceM) clk ∧ CutsOk L clk ∧ FrontC L (fun q v => TC c i ms.length q v ∨ ∃ x ∈ Li, x.b ∈ g.2.1 ∧ q = x.p + 1 ∧ v = x.v + c i ms.length)) (fun g => Li.length - g.2.1.length)
    (seo ob2 it (obM (.iter m ki [] ki)), [], ki) ⟨fun j m' hm' => ?_, mp_other q1 (mp_fresh q1 hit), it_same, Nat.le_refl _, p3.new hit _, GoneC.nil Li, Ln, kn, mp_other p4 hitn.symm, p5, p6.same fun q v => ⟨.inl, fun h => h.resolve_right fun ⟨x, _, hb, _⟩ => by simp at hb⟩⟩ (by (repeat (refine Cov.cons (by exact rfl) ?_)); exact Cov.nil) (by exact Sub.auto) ?_
  · obtain ⟨_, _, k1, _⟩ := p2 j m' hm'
    exact (p2 j m' hm').seo (mp_fresh k1 hit)
  rintro ⟨ob3, seen, last⟩ ⟨r1, r2, r3, r4, r5, r6, Lx, kx, r7, r8, r9⟩ I3 ν3 mm3 hk3
  dsimp only at r1 r2 r3 r4 r5 r6 r7 r9 hk3 ⊢
  (repeat (first | refine gst (hk := ?_) | (show GO _ _ _ _ _ (⟨some _, none, _⟩ :: _) _; first | refine go_op (hk := ?_) | (refine go_nw (hk := ?_); intro u; try simp only [llc, lln, lna, lza]) | (refine go_np (hk := ?_); intro id)) | (show GO _ _ _ _ _ (⟨none, none, _⟩ :: _) _; refine go_st (hk := ?_)) | (show GO _ _ _ _ _ (⟨_, some _, _⟩ :: _) _; first | refine go_in (hk := ?_) | refine go_out (hk := ?_) | refine go_void (hk := ?_)) | (show GK _ _ _ _ (blockK _ _ _); refine gk_past rfl ?_) | (show GC _ _ _ _ _ (.cond _ _ _) _; first | refine gc_yes (h1 := ?_) | refine gc_no (h1 := ?_))))
  refine go_nxC rfl r3 r2 q2 r4 (fun hend => ?_) (fun x hx hn => ?_)
  · (repeat (first | refine gst (hk := ?_) | (show GO _ _ _ _ _ (⟨some _, none, _⟩ :: _) _; first | refine go_op (hk := ?_) | (refine go_nw (hk := ?_); intro u; try simp only [llc, lln, lna, lza]) | (refine go_np (hk := ?_); intro id)) | (show GO _ _ _ _ _ (⟨none, none, _⟩ :: _) _; refine go_st (hk := ?_)) | (show GO _ _ _ _ _ (⟨_, some _, _⟩ :: _) _; first | refine go_in (hk := ?_) | refine go_out (hk := ?_) | refine go_void (hk := ?_)) | (show GK _ _ _ _ (blockK _ _ _); refine gk_past rfl ?_) | (show GC _ _ _ _ _ (.cond _ _ _) _; first | refine gc_yes (h1 := ?_) | refine gc_no (h1 := ?_))))
    refine gk_next (hk2 (ob3, i + 1) ⟨by omega, r1, r5, Lx, kx, r7, r8, r9.weaken (fun q v h => ?_) (fun q v h => ?_)⟩ (by dsimp only; omega))
    · rcases h with ⟨s, h1, h2⟩ | ⟨x, hx, _, rfl, rfl⟩
      · exact ⟨s, by dsimp only; omega, h2⟩
      · exact ⟨i, by dsimp only; omega, _, _, q3.1 x hx, rfl, rfl⟩
    · obtain ⟨s, h1, q', v', hsc, rfl, rfl⟩ := h
      dsimp only at h1
      rcases Nat.lt_or_ge s i with h3 | h3
      · exact ⟨_, _, .inl ⟨s, h3, q', v', hsc, rfl, rfl⟩, Nat.le_refl _, Rat.le_refl⟩
      · have esi : s = i := by omega
        subst esi
        obtain ⟨x, k1, k2, k3⟩ := q3.2.1 q' v' hsc
        exact ⟨_, _, .inr ⟨x, k1, hend x k1, rfl, rfl⟩, by omega, by grind⟩
  · have ne1 := mp_it r2 r3
    obtain ⟨hxf, hx8⟩ := scfd (q3.1 x hx) (by omega)
    have hsum : SC c ms.length (x.p + 1) (x.v + c i ms.length) := TC.sc ⟨i, hi, _, _, q3.1 x hx, rfl, rfl⟩ (Nat.le_refl _)
    obtain ⟨hsf, hs8⟩ := scfd hsum (by omega)
    have hall : ∀ e ∈ Lx, SC c ms.length e.p e.v := fun e he => by
      rcases r9.1 e he with h | ⟨y, hy, _, h1, h2⟩
      · exact h.sc (by omega)
      · rw [h1, h2]; exact TC.sc ⟨i, hi, _, _, q3.1 y hy, rfl, rfl⟩ (Nat.le_refl _)
    (repeat (first | refine gst (hk := ?_) | (show GO _ _ _ _ _ (⟨some _, none, _⟩ :: _) _; first | refine go_op (hk := ?_) | (refine go_nw (hk := ?_); intro u; try simp only [llc, lln, lna, lza]) | (refine go_np (hk := ?_); intro id)) | (show GO _ _ _ _ _ (⟨none, none, _⟩ :: _) _; refine go_st (hk := ?_)) | (show GO _ _ _ _ _ (⟨_, some _, _⟩ :: _) _; first | refine go_in (hk := ?_) | refine go_out (hk := ?_) | refine go_void (hk := ?_)) | (show GK _ _ _ _ (blockK _ _ _); refine gk_past rfl ?_) | (show GC _ _ _ _ _ (.cond _ _ _) _; first | refine gc_yes (h1 := ?_) | refine gc_no (h1 := ?_))))
    refine go_enC rfl it_same (mp_other r2 ne1) q2 hx ?_
    (repeat (first | refine gst (hk := ?_) | (show GO _ _ _ _ _ (⟨some _, none, _⟩ :: _) _; first | refine go_op (hk := ?_) | (refine go_nw (hk := ?_); intro u; try simp only [llc, lln, lna, lza]) | (refine go_np (hk := ?_); intro id)) | (show GO _ _ _ _ _ (⟨none, none, _⟩ :: _) _; refine go_st (hk := ?_)) | (show GO _ _ _ _ _ (⟨_, some _, _⟩ :: _) _; first | refine go_in (hk := ?_) | refine go_out (hk := ?_) | refine go_void (hk := ?_)) | (show GK _ _ _ _ (blockK _ _ _); refine gk_past rfl ?_) | (show GC _ _ _ _ _ (.cond _ _ _) _; first | refine gc_yes (h1 := ?_) | refine gc_no (h1 := ?_))))
    refine go_callp rfl code_impl_Frac_plus.callable (fun H hH => implPlus_ok (p := x.v) (q := c i ms.length) (fit9 (hxf.mono (by omega)) (hcfd.mono (by omega)))) ?_
    (repeat (first | refine gst (hk := ?_) | (show GO _ _ _ _ _ (⟨some _, none, _⟩ :: _) _; first | refine go_op (hk := ?_) | (refine go_nw (hk := ?_); intro u; try simp only [llc, lln, lna, lza]) | (refine go_np (hk := ?_); intro id)) | (show GO _ _ _ _ _ (⟨none, none, _⟩ :: _) _; refine go_st (hk := ?_)) | (show GO _ _ _ _ _ (⟨_, some _, _⟩ :: _) _; first | refine go_in (hk := ?_) | refine go_out (hk := ?_) | refine go_void (hk := ?_)) | (show GK _ _ _ _ (blockK _ _ _); refine gk_past rfl ?_) | (show GC _ _ _ _ _ (.cond _ _ _) _; first | refine gc_yes (h1 := ?_) | refine gc_no (h1 := ?_))))
    refine go_callO (v := .tuple []) (Φ := fun ob' => (∀ j, j ≠ nx → ob' j = seo ob3 it (obM (.iter m ki (seen ++ [x.b]) ki)) j) ∧ ∃ L' clk', MpO ob' nx (L'.map ceM) clk' ∧ CutsOk L' clk' ∧ KpC Lx (x.p + 1) (x.v + c i ms.length) L') rfl code_impl_cuts_keep.callable (fun H1 hH => ?_) ?_
    · have hob : H1.ob = seo ob3 it (obM (.iter m ki (seen ++ [x.b]) ki)) := hH.le.ob
      refine (keep_ok (m0 := nx) (p := x.p + 1) (v := x.v + c i ms.length) (L := Lx) (clk := kx) (by rw [hob]; exact mp_other r7 hitn.symm) r8 (by omega) (fun e he => by have := (scfd (hall e he) (by omega)).2; omega) (fun e he => fit9 ((scfd (hall e he) (by omega)).1.mono (by omega)) (hsf.mono (by omega)))).mono ?_
      rintro r H' ⟨rfl, k1, k3, k4⟩
      exact ⟨rfl, k1, fun j hj => by rw [k3 j hj, hob], k4⟩
    rintro ob' ⟨k3, L', clk', k4, k5, k6⟩
    (repeat (first | refine gst (hk := ?_) | (show GO _ _ _ _ _ (⟨some _, none, _⟩ :: _) _; first | refine go_op (hk := ?_) | (refine go_nw (hk := ?_); intro u; try simp only [llc, lln, lna, lza]) | (refine go_np (hk := ?_); intro id)) | (show GO _ _ _ _ _ (⟨none, none, _⟩ :: _) _; refine go_st (hk := ?_)) | (show GO _ _ _ _ _ (⟨_, some _, _⟩ :: _) _; first | refine go_in (hk := ?_) | refine go_out (hk := ?_) | refine go_void (hk := ?_)) | (show GK _ _ _ _ (blockK _ _ _); refine gk_past rfl ?_) | (show GC _ _ _ _ _ (.cond _ _ _) _; first | refine gc_yes (h1 := ?_) | refine gc_no (h1 := ?_))))
    refine gk_next (hk3 (ob', seen ++ [x.b], ki) ⟨fun j m' hm' => ?_, mp_eq (mp_other r2 ne1) (k3 m hmn), it_eq it_same (k3 it hitn), Nat.le_refl _, (r5.mod (.inl x2) _).eq x1 k3, r6.snoc hx hn, L', clk', k4, k5, (r9.keep k6).same fun q v => ?_⟩ (r6.lt hx hn))
    · obtain ⟨_, _, k7, _⟩ := r1 j m' hm'
      exact ((r1 j m' hm').seo (mp_it k7 r3)).eq (k3 m' (nin hm'))
    · constructor
      · rintro ((h | ⟨y, hy, hb, h1, h2⟩) | ⟨h1, h2⟩)
        · exact .inl h
        · exact .inr ⟨y, hy, List.mem_append_left _ hb, h1, h2⟩
        · exact .inr ⟨x, hx, by simp, h1, h2⟩
      · rintro (h | ⟨y, hy, hb, h1, h2⟩)
        · exact .inl (.inl h)
        · rcases List.mem_append.1 hb with hb | hb
          · exact .inl (.inr ⟨y, hy, hb, h1, h2⟩)
          · obtain rfl := map_inj q2.1 hy hx (List.mem_singleton.1 hb)
            exact .inr ⟨h1, h2⟩

theorem go_callM {P : Program} {A : Heap} {X : List Nat} {E : List (Nat × AV)} {S : Sig} {r : List MI} {K : St → Prop} {ob : Nat → Option OB} {d : Nat} {f : FuncId} {args : List MX} {vs : List AV} {Φ : (Nat → Option OB) → Nat → Prop} (ha : evsE E args = some vs) (hc : Callable P f)
    (h : ∀ H, SOk (A.obs ob) X S H.size H → ACalls P f vs H fun r H' => ∃ m0, r = .map m0 ∧ (H.size ≤ H'.size ∧ ∀ i, i < H.size → H'.get i = H.get i) ∧ Φ H'.ob m0) (hk : ∀ ob' m0, Φ ob' m0 → GO P (A.obs ob') X ((d, .map m0) :: E) S r K) : GO P (A.obs ob) X E S (⟨some d, none, .call f args⟩ :: r) K :=
  go_callA (γ := (Nat → Option OB) × Nat) (O := fun g => g.1) (V := fun g => .map g.2) (T := fun _ => S) (Φ := fun g => Φ g.1 g.2) ha hc (fun H hH => (h H hH).mono fun r H' ⟨m0, h1, h2, h3⟩ => ⟨(H'.ob, m0), h1, sok_leO hH h2.1 h2.2 rfl, h3⟩) (fun g hg => hk g.1 g.2 hg)

/-- the best cuts, as a map that is there -/
def BestM (c : Nat → Nat → Rat) (n : Nat) (ob ob' : Nat → Option OB) (m0 : Nat) : Prop := ob m0 = none ∧ (∀ j, j ≠ m0 → ob' j = ob j) ∧ ∃ L clk, MpO ob' m0 (L.map ceM) clk ∧ CutsOk L clk ∧ FrontC L (fun q v => Cuts (· + ·) c q 0 n v)

theorem BestM.ex {c : Nat → Nat → Rat} {n : Nat} {ob ob' : Nat → Option OB} {m0 : Nat} (h : BestM c n ob ob' m0) : ExO ob ob' [] := (ExO.refl ob []).eq h.1 h.2.1

theorem bestM_ok {f : FuncId} {c : Nat → Nat → Rat} {A : Heap} {X : List Nat} {S : Sig} {H : Heap} {ob : Nat → Option OB} {a : AV} {xs : List Int} (hH : SOk (A.obs ob) X S H.size H) (ha : Ints H a xs) (hS : Steps xs) (hcf : Callable Try.prog f)
    (hf : ∀ {H1 : Heap} {b : AV} {s k : Nat}, s < k → k ≤ xs.length → Ints H1 b (winL xs s k) → ACalls Try.prog f [b] H1 fun r H' => r = frV (c s k) ∧ Le H1 H')
    (hfd : ∀ q k v, Cuts (· + ·) c q 0 k v → k ≤ xs.length → FD v 840 1000000000) (hfc : ∀ s k, s < k → k ≤ xs.length → FD (c s k) 840 1000000000) :
    ACalls Try.prog fn_impl_bestCuts [a, .func f []] H fun r H' => ∃ m0, r = .map m0 ∧ (H.size ≤ H'.size ∧ ∀ i, i < H.size → H'.get i = H.get i) ∧ BestM c xs.length ob H'.ob m0 := by
  have hob : H.ob = ob := hH.le.ob
  have hn1 := hS.2.1
  refine (bestCuts_ok (c := c) ha hS hcf hf hfd hfc).mono ?_
  rintro r H' ⟨m0, L, clk, rfl, h1, h2, h3, h4, h5, h6⟩
  exact ⟨m0, rfl, h1, by rw [← hob]; exact h2, fun j hj => by rw [← hob]; exact h3 j hj, L, clk, h4, h5, h6.same fun q v => ⟨fun h => h.resolve_left fun h => by omega, .inr⟩⟩

theorem bestUpTo_ok {c : Nat → Nat → Rat} {A : Heap} {X : List Nat} {S : Sig} {H : Heap} {ob0 ob : Nat → Option OB} {m0 n P : Nat} {w : Rat} (hH : SOk (A.obs ob) X S H.size H) (h : BestM c n ob0 ob m0) (hn : 1 ≤ n) (hn8 : n ≤ 8) (h1 : 1 ≤ P) (hP : P ≤ 1000) (hw : LeastC (· + ·) (· ≤ ·) c P 0 n w) :
    ACalls Try.prog fn_impl_cuts_upTo [.map m0, .int .i64 (P : Int)] H fun r H' => r = frV w ∧ H' = H := by
  have hob : H.ob = ob := hH.le.ob
  obtain ⟨_, _, L, clk, k1, k2, k3⟩ := h
  refine (upTo_ok (by rw [hob]; exact k1) k2 k3 hP (fun e he => by have := (k3.1 e he).lt; omega) ?_).mono ?_
  · obtain ⟨e, g1, g2, _⟩ := k3.2.1 1 _ (.one (show 0 < n by omega))
    exact ⟨e, g1, by omega⟩
  · rintro r H' ⟨⟨w', rfl, g1, g2⟩, rfl⟩
    exact ⟨by rw [LeastC.uniq cstR ⟨g1, g2⟩ hw], rfl⟩

theorem missedSquares_win {H : Heap} {b : AV} {xs : List Int} {s k : Nat} (hS : Steps xs) (h1 : s < k) (h2 : k ≤ xs.length) (hb : Ints H b (winL xs s k)) : ACalls Try.prog fn_impl_missedSquares [b] H fun r H' => r = frV (pieR xs s k) ∧ Le H H' := by
  have hn := hS.2.2
  have hl := win_len2 (xs := xs) (i := s) h2
  refine (missedSquares_ok hb (hS.win s k) (by omega) (by omega)).mono ?_
  rintro r H' ⟨rfl, rfl⟩
  exact ⟨by rw [pie_win h2], Le.refl _⟩

theorem Steps.sq_fd {xs : List Int} (hS : Steps xs) : ∀ q k v, Cuts (· + ·) (pieR xs) q 0 k v → k ≤ xs.length → FD v 840 1000000000 := fun q k v h hk => by
  have hn := hS.2.2
  have := h.lt
  exact (cuts_fd hS.x h (by omega)).mono (by omega)

theorem Steps.sq_fc {xs : List Int} (hS : Steps xs) : ∀ s k, s < k → k ≤ xs.length → FD (pieR xs s k) 840 1000000000 := fun s k h hk => by
  have hn := hS.2.2
  exact (pie_fd2 hS.x h (by omega)).mono (by omega)

theorem implPiecesMiss_ok {H : Heap} {a : AV} {xs : List Int} {p : Int} (ha : Ints H a xs) (hl : xs.length ≤ 1000000000) :
    ACalls Try.prog fn_impl_PiecesMiss [a, .int .i64 p] H fun r H' => r = .tuple [opV (PsOk xs p) (psR xs p.toNat), .bool (decide (PsOk xs p))] ∧ H' = H := by
  refine acalls_plain (R := fun r => r = .tuple [opV (PsOk xs p) (psR xs p.toNat), .bool (decide (PsOk xs p))]) ?_ (by rintro r rfl; rfl)
  refine code_impl_PiecesMiss.go [.roI a xs.length xs] ⟨⟨rfl, ha⟩, trivial⟩ (by simp) ?_
  unfold mc_impl_PiecesMiss
  change GC Try.prog (H.obs H.ob) [] _ _ _ _
  have no : ¬ PsOk xs p → AV.tuple [fr0, .bool false] = AV.tuple [opV (PsOk xs p) (psR xs p.toNat), .bool (decide (PsOk xs p))] := fun h => by rw [opV_no h, decide_eq_false h]
  (repeat (first | refine gst (hk := ?_) | (show GO _ _ _ _ _ (⟨some _, none, _⟩ :: _) _; first | refine go_op (hk := ?_) | (refine go_nw (hk := ?_); intro u; try simp only [llc, lln, lna, lza]) | (refine go_np (hk := ?_); intro id)) | (show GO _ _ _ _ _ (⟨none, none, _⟩ :: _) _; refine go_st (hk := ?_)) | (show GO _ _ _ _ _ (⟨_, some _, _⟩ :: _) _; first | refine go_in (hk := ?_) | refine go_out (hk := ?_) | refine go_void (hk := ?_)) | (show GK _ _ _ _ (blockK _ _ _); refine gk_past rfl ?_) | (show GC _ _ _ _ _ (.cond _ _ _) _; first | refine gc_yes (h1 := ?_) | refine gc_no (h1 := ?_))))
  refine go_callp rfl code_impl_validPieces.callable (fun H hH => validPieces_ok (hH.ints (by exact Has.auto)) hl) ?_
  (repeat (first | refine gst (hk := ?_) | (show GO _ _ _ _ _ (⟨some _, none, _⟩ :: _) _; first | refine go_op (hk := ?_) | (refine go_nw (hk := ?_); intro u; try simp only [llc, lln, lna, lza]) | (refine go_np (hk := ?_); intro id)) | (show GO _ _ _ _ _ (⟨none, none, _⟩ :: _) _; refine go_st (hk := ?_)) | (show GO _ _ _ _ _ (⟨_, some _, _⟩ :: _) _; first | refine go_in (hk := ?_) | refine go_out (hk := ?_) | refine go_void (hk := ?_)) | (show GK _ _ _ _ (blockK _ _ _); refine gk_past rfl ?_) | (show GC _ _ _ _ _ (.cond _ _ _) _; first | refine gc_yes (h1 := ?_) | refine gc_no (h1 := ?_))))
  refine gc_cond rfl (fun h1 => ?_) (fun h1 => ?_)
  · (repeat (first | refine gst (hk := ?_) | (show GO _ _ _ _ _ (⟨some _, none, _⟩ :: _) _; first | refine go_op (hk := ?_) | (refine go_nw (hk := ?_); intro u; try simp only [llc, lln, lna, lza]) | (refine go_np (hk := ?_); intro id)) | (show GO _ _ _ _ _ (⟨none, none, _⟩ :: _) _; refine go_st (hk := ?_)) | (show GO _ _ _ _ _ (⟨_, some _, _⟩ :: _) _; first | refine go_in (hk := ?_) | refine go_out (hk := ?_) | refine go_void (hk := ?_)) | (show GK _ _ _ _ (blockK _ _ _); refine gk_past rfl ?_) | (show GC _ _ _ _ _ (.cond _ _ _) _; first | refine gc_yes (h1 := ?_) | refine gc_no (h1 := ?_))))
    exact gk_rets (rvs_c rfl (by exact Sel.auto) rfl rfl (rvs_t rfl rvs_nil)) fun H' hH => ⟨no h1, _, _, hH, ExO.refl _ _⟩
  have hP := Decidable.not_not.1 h1
  have hS := hP.1
  have hn := hS.2.2
  obtain ⟨p', rfl⟩ : ∃ p' : Nat, p = (p' : Int) := ⟨p.toNat, by have := hP.2; omega⟩
  have hp1 : 1 ≤ p' := by have := hP.2; omega
  have hp8 : p' ≤ 8 := by have := hP.2; omega
  rw [opV_yes hP, decide_eq_true hP]
  simp only [Int.toNat_natCast]
  (repeat (first | refine gst (hk := ?_) | (show GO _ _ _ _ _ (⟨some _, none, _⟩ :: _) _; first | refine go_op (hk := ?_) | (refine go_nw (hk := ?_); intro u; try simp only [llc, lln, lna, lza]) | (refine go_np (hk := ?_); intro id)) | (show GO _ _ _ _ _ (⟨none, none, _⟩ :: _) _; refine go_st (hk := ?_)) | (show GO _ _ _ _ _ (⟨_, some _, _⟩ :: _) _; first | refine go_in (hk := ?_) | refine go_out (hk := ?_) | refine go_void (hk := ?_)) | (show GK _ _ _ _ (blockK _ _ _); refine gk_past rfl ?_) | (show GC _ _ _ _ _ (.cond _ _ _) _; first | refine gc_yes (h1 := ?_) | refine gc_no (h1 := ?_))))
  refine go_callM rfl code_impl_bestCuts.callable (fun H1 hH => bestM_ok (c := pieR xs) hH (hH.ints (by exact Has.auto)) hS code_impl_missedSquares.callable (fun h1 h2 hb => missedSquares_win hS h1 h2 hb) hS.sq_fd hS.sq_fc) (fun ob m0 hB => ?_)
  (repeat (first | refine gst (hk := ?_) | (show GO _ _ _ _ _ (⟨some _, none, _⟩ :: _) _; first | refine go_op (hk := ?_) | (refine go_nw (hk := ?_); intro u; try simp only [llc, lln, lna, lza]) | (refine go_np (hk := ?_); intro id)) | (show GO _ _ _ _ _ (⟨none, none, _⟩ :: _) _; refine go_st (hk := ?_)) | (show GO _ _ _ _ _ (⟨_, some _, _⟩ :: _) _; first | refine go_in (hk := ?_) | refine go_out (hk := ?_) | refine go_void (hk := ?_)) | (show GK _ _ _ _ (blockK _ _ _); refine gk_past rfl ?_) | (show GC _ _ _ _ _ (.cond _ _ _) _; first | refine gc_yes (h1 := ?_) | refine gc_no (h1 := ?_))))
  refine go_callp rfl code_impl_cuts_upTo.callable (fun H1 hH => bestUpTo_ok hH hB hS.2.1 hn hp1 (by omega) (ps_least hS hp1)) ?_
  (repeat (first | refine gst (hk := ?_) | (show GO _ _ _ _ _ (⟨some _, none, _⟩ :: _) _; first | refine go_op (hk := ?_) | (refine go_nw (hk := ?_); intro u; try simp only [llc, lln, lna, lza]) | (refine go_np (hk := ?_); intro id)) | (show GO _ _ _ _ _ (⟨none, none, _⟩ :: _) _; refine go_st (hk := ?_)) | (show GO _ _ _ _ _ (⟨_, some _, _⟩ :: _) _; first | refine go_in (hk := ?_) | refine go_out (hk := ?_) | refine go_void (hk := ?_)) | (show GK _ _ _ _ (blockK _ _ _); refine gk_past rfl ?_) | (show GC _ _ _ _ _ (.cond _ _ _) _; first | refine gc_yes (h1 := ?_) | refine gc_no (h1 := ?_))))
  exact gk_rets (rvs_c rfl (by exact Sel.auto) rfl rfl (rvs_t rfl rvs_nil)) fun H' hH => ⟨rfl, _, _, hH, hB.ex⟩

theorem fd_int {w B : Int} (h : -B ≤ 840 * w ∧ 840 * w ≤ B) : FD (w : Rat) 840 B := ⟨by omega, 840 * w, by rw [Rat.intCast_mul]; grind, h.1, h.2⟩

def ofC (t : Rat × Nat) : List AV := [.int .i64 t.1.num, .int .i64 (t.1.den : Int), .int .i64 (t.2 : Int)]

theorem cels_of : Cels ofC 3 := ⟨fun _ => rfl, fun _ => rfl⟩

abbrev ofs (L : List (Rat × Nat)) : List AV := cellsK ofC L

abbrev ofV (t : Rat × Nat) : AV := .agg (ofC t)

abbrev nthO (L : List (Rat × Nat)) (i : Nat) : Rat × Nat := nthA (0, 0) L i

abbrev celOf (i : Nat) (t : Rat × Nat) : Ch := ⟨.cell, .ptr i 0, 3, 1, ofC t⟩

def ltO (s t : Rat × Nat) : Prop := s.1 < t.1 ∨ (s.1 = t.1 ∧ s.2 < t.2)

noncomputable instance (s t : Rat × Nat) : Decidable (ltO s t) := Classical.propDecidable _

theorem ltO_trans {a b c : Rat × Nat} (h : ltO a b) (h' : ltO b c) : ltO a c := by
  rcases h with h | ⟨h1, h2⟩ <;> rcases h' with g | ⟨g1, g2⟩
  · exact .inl (by grind)
  · exact .inl (by rw [← g1]; exact h)
  · exact .inl (by rw [h1]; exact g)
  · exact .inr ⟨h1.trans g1, by omega⟩

noncomputable def lfO (g : Nat → Rat × Nat) : Nat → Rat × Nat
  | 0 => g 0
  | k + 1 => if ltO (g (k + 1)) (lfO g k) then g (k + 1) else lfO g k

theorem lfO_is (g : Nat → Rat × Nat) : ∀ k, (∃ j, j ≤ k ∧ lfO g k = g j) ∧ ∀ j, j ≤ k → ¬ ltO (g j) (lfO g k)
  | 0 => ⟨⟨0, Nat.le_refl _, rfl⟩, fun j hj => by
    obtain rfl : j = 0 := by omega
    rw [lfO]; rintro (h | ⟨_, h⟩)
    · exact absurd h Rat.lt_irrefl
    · omega⟩
  | k + 1 => by
    obtain ⟨⟨j, h1, h2⟩, h3⟩ := lfO_is g k
    rw [lfO]; split
    · rename_i hl
      refine ⟨⟨k + 1, Nat.le_refl _, rfl⟩, fun i hi hc => ?_⟩
      rcases Nat.lt_or_ge k i with h | h
      · obtain rfl : i = k + 1 := by omega
        rcases hc with h | ⟨_, h⟩
        · exact absurd h Rat.lt_irrefl
        · omega
      · exact h3 i h (ltO_trans hc hl)
    · rename_i hl
      refine ⟨⟨j, by omega, h2⟩, fun i hi hc => ?_⟩
      rcases Nat.lt_or_ge k i with h | h
      · obtain rfl : i = k + 1 := by omega
        exact hl hc
      · exact h3 i h hc

def orI (a b : Int) : Int := if a = 0 then b else a

theorem orI_neg {s t : Rat × Nat} : orI (cmR s.1 t.1) (sgn ((s.2 : Int) - (t.2 : Int))) < 0 ↔ ltO s t := by
  unfold orI ltO
  split
  · rename_i h
    have e : s.1 = t.1 := by
      have h1 : ¬ s.1 < t.1 := fun g => by have := cmR_neg.2 g; omega
      have h2 : ¬ t.1 < s.1 := fun g => by have := cmR_pos.2 g; omega
      exact Rat.le_antisymm (Rat.not_lt.1 h2) (Rat.not_lt.1 h1)
    rw [e]
    have : sgn ((s.2 : Int) - (t.2 : Int)) < 0 ↔ s.2 < t.2 := by unfold sgn; split <;> (try split) <;> omega
    rw [this]
    exact ⟨fun h => .inr ⟨rfl, h⟩, fun h => h.elim (fun h => absurd h Rat.lt_irrefl) (·.2)⟩
  · rename_i h
    rw [cmR_neg]
    constructor
    · exact .inl
    · rintro (g | ⟨g, _⟩)
      · exact g
      · exfalso
        apply h
        have h1 : ¬ cmR s.1 t.1 < 0 := fun k => by have := cmR_neg.1 k; rw [g] at this; exact absurd this Rat.lt_irrefl
        have h2 : ¬ 0 < cmR s.1 t.1 := fun k => by have := cmR_pos.1 k; rw [g] at this; exact absurd this Rat.lt_irrefl
        omega

/-- what a way costs -/
def offC (c : Int) (e : CE) : Rat × Nat := (e.v + ((c * (e.p : Int) : Int) : Rat), e.p)

theorem pp_best {xs : List Int} {c : Int} (hS : Steps xs) (h0 : 0 ≤ c) {L : List CE} (hF : FrontC L (fun q v => Cuts (· + ·) (pieR xs) q 0 xs.length v)) {e : CE} (he : e ∈ L) (hm : ∀ x ∈ L, ¬ ltO (offC c x) (offC c e)) :
    offC c e = (ppF xs c (ppN xs c (xs.length - 1)), ppN xs c (xs.length - 1)) := by
  have hn1 := hS.2.1
  obtain ⟨⟨n1, n2⟩, n3, n4⟩ := ppN_is xs c (xs.length - 1)
  have low : ∀ x ∈ L, 1 ≤ x.p ∧ x.p ≤ xs.length ∧ ppF xs c x.p ≤ (offC c x).1 := fun x hx => by
    have hc := hF.1 x hx
    have hlt := hc.lt
    have := (ps_least hS (p := x.p) (by omega)).2 x.p x.v (Nat.le_refl _) hc
    exact ⟨by omega, by omega, by unfold ppF offC; dsimp only; grind⟩
  generalize ppN xs c (xs.length - 1) = N at *
  have n3' := fun {p : Nat} (h1 : 1 ≤ p) (h2 : p ≤ xs.length) => n3 p h1 (by omega)
  obtain ⟨⟨q, q1, q2⟩, _⟩ := ps_least hS n1
  obtain ⟨y, y1, y2, y3⟩ := hF.2.1 q _ q2
  obtain ⟨l1, l2, l3⟩ := low y y1
  obtain ⟨m1, m2, m3⟩ := low e he
  have cy : (offC c y).1 ≤ ppF xs c N := by
    have h1 : ((c * (y.p : Int) : Int) : Rat) ≤ ((c * (N : Int) : Int) : Rat) := Rat.intCast_le_intCast.2 (Int.mul_le_mul_of_nonneg_left (by omega) h0)
    unfold ppF offC; dsimp only; grind
  have ny := n3' l1 l2
  have ne := n3' m1 m2
  have yp : y.p = N := by
    rcases Nat.lt_or_ge y.p N with h | h
    · exact absurd (Rat.le_antisymm (Rat.le_trans l3 cy) ny) (n4 y.p l1 h)
    · omega
  have ey : (offC c y).1 = ppF xs c N := Rat.le_antisymm cy (Rat.le_trans ny l3)
  have hno := hm y y1
  have g1 : ¬ (offC c y).1 < (offC c e).1 := fun h => hno (.inl h)
  have ee : (offC c e).1 = ppF xs c N := by
    rw [← ey]; exact Rat.le_antisymm (Rat.not_lt.1 g1) (by rw [ey]; exact Rat.le_trans ne m3)
  have ep : e.p = N := by
    have h1 : ¬ N < e.p := fun h => hno (.inr ⟨by rw [ey, ee], by show y.p < e.p; omega⟩)
    rcases Nat.lt_or_ge e.p N with h | h
    · exact absurd (Rat.le_antisymm (by rw [← ee]; exact m3) ne) (n4 e.p m1 h)
    · omega
  exact Prod.ext ee ep

/-- the first number that is not 0 -/
theorem cmpOr_ok {H : Heap} {v : AV} {a b : Int} (hv : Ints H v [a, b]) : ACalls Try.prog fn_cmp_Or_int [v] H fun r H' => r = .int .i64 (orI a b) ∧ H' = H := by
  refine ACalls.val ?_ rfl
  refine code_cmp_Or_int.go [.roI v 2 [a, b]] ⟨⟨rfl, hv⟩, trivial⟩ (by simp) ?_
  unfold mc_cmp_Or_int
  (repeat (first | refine gst (hk := ?_) | (show GO _ _ _ _ _ (⟨some _, none, _⟩ :: _) _; first | refine go_op (hk := ?_) | (refine go_nw (hk := ?_); intro u; try simp only [llc, lln, lna, lza]) | (refine go_np (hk := ?_); intro id)) | (show GO _ _ _ _ _ (⟨none, none, _⟩ :: _) _; refine go_st (hk := ?_)) | (show GO _ _ _ _ _ (⟨_, some _, _⟩ :: _) _; first | refine go_in (hk := ?_) | refine go_out (hk := ?_) | refine go_void (hk := ?_)) | (show GK _ _ _ _ (blockK _ _ _); refine gk_past rfl ?_) | (show GC _ _ _ _ _ (.cond _ _ _) _; first | refine gc_yes (h1 := ?_) | refine gc_no (h1 := ?_))))
  refine gc_loop (γ := Nat) (fun i => [(3, .int .i64 0), (6, v), (7, .int .i64 ((2 : Nat) : Int)), (8, .int .i64 (i : Int))]) (fun _ => [.roI v 2 [a, b]]) (fun i => i ≤ 2 ∧ (0 < i → a = 0) ∧ (1 < i → b = 0)) (fun i => 2 - i) 0 ⟨by omega, by omega, by omega⟩ (hb := ?_)
  rintro i ⟨hi, h1, h2⟩ I ν m hk
  (repeat (first | refine gst (hk := ?_) | (show GO _ _ _ _ _ (⟨some _, none, _⟩ :: _) _; first | refine go_op (hk := ?_) | (refine go_nw (hk := ?_); intro u; try simp only [llc, lln, lna, lza]) | (refine go_np (hk := ?_); intro id)) | (show GO _ _ _ _ _ (⟨none, none, _⟩ :: _) _; refine go_st (hk := ?_)) | (show GO _ _ _ _ _ (⟨_, some _, _⟩ :: _) _; first | refine go_in (hk := ?_) | refine go_out (hk := ?_) | refine go_void (hk := ?_)) | (show GK _ _ _ _ (blockK _ _ _); refine gk_past rfl ?_) | (show GC _ _ _ _ _ (.cond _ _ _) _; first | refine gc_yes (h1 := ?_) | refine gc_no (h1 := ?_))))
  refine gc_cond rfl (fun h => ?_) (fun h => ?_)
  · (repeat (first | refine gst (hk := ?_) | (show GO _ _ _ _ _ (⟨some _, none, _⟩ :: _) _; first | refine go_op (hk := ?_) | (refine go_nw (hk := ?_); intro u; try simp only [llc, lln, lna, lza]) | (refine go_np (hk := ?_); intro id)) | (show GO _ _ _ _ _ (⟨none, none, _⟩ :: _) _; refine go_st (hk := ?_)) | (show GO _ _ _ _ _ (⟨_, some _, _⟩ :: _) _; first | refine go_in (hk := ?_) | refine go_out (hk := ?_) | refine go_void (hk := ?_)) | (show GK _ _ _ _ (blockK _ _ _); refine gk_past rfl ?_) | (show GC _ _ _ _ _ (.cond _ _ _) _; first | refine gc_yes (h1 := ?_) | refine gc_no (h1 := ?_))))
    refine gc_cond rfl (fun h3 => ?_) (fun h3 => ?_)
    · (repeat (first | refine gst (hk := ?_) | (show GO _ _ _ _ _ (⟨some _, none, _⟩ :: _) _; first | refine go_op (hk := ?_) | (refine go_nw (hk := ?_); intro u; try simp only [llc, lln, lna, lza]) | (refine go_np (hk := ?_); intro id)) | (show GO _ _ _ _ _ (⟨none, none, _⟩ :: _) _; refine go_st (hk := ?_)) | (show GO _ _ _ _ _ (⟨_, some _, _⟩ :: _) _; first | refine go_in (hk := ?_) | refine go_out (hk := ?_) | refine go_void (hk := ?_)) | (show GK _ _ _ _ (blockK _ _ _); refine gk_past rfl ?_) | (show GC _ _ _ _ _ (.cond _ _ _) _; first | refine gc_yes (h1 := ?_) | refine gc_no (h1 := ?_))))
      refine gk_ret rfl fun H' hH => ⟨?_, hH.leE⟩
      rcases Nat.lt_or_ge 0 i with h4 | h4
      · obtain rfl : i = 1 := by omega
        have := h1 (by omega)
        simp [tupleOf, orI, this, nth]
      · obtain rfl : i = 0 := by omega
        have h5 : ¬ a = 0 := h3
        simp [tupleOf, orI, h5, nth]
    · (repeat (first | refine gst (hk := ?_) | (show GO _ _ _ _ _ (⟨some _, none, _⟩ :: _) _; first | refine go_op (hk := ?_) | (refine go_nw (hk := ?_); intro u; try simp only [llc, lln, lna, lza]) | (refine go_np (hk := ?_); intro id)) | (show GO _ _ _ _ _ (⟨none, none, _⟩ :: _) _; refine go_st (hk := ?_)) | (show GO _ _ _ _ _ (⟨_, some _, _⟩ :: _) _; first | refine go_in (hk := ?_) | refine go_out (hk := ?_) | refine go_void (hk := ?_)) | (show GK _ _ _ _ (blockK _ _ _); refine gk_past rfl ?_) | (show GC _ _ _ _ _ (.cond _ _ _) _; first | refine gc_yes (h1 := ?_) | refine gc_no (h1 := ?_))))
      refine gk_next (hk (i + 1) ⟨by omega, fun h4 => ?_, fun h4 => ?_⟩ (by omega))
      · rcases Nat.lt_or_ge 0 i with h5 | h5
        · exact h1 h5
        · obtain rfl : i = 0 := by omega
          exact Decidable.not_not.1 h3
      · obtain rfl : i = 1 := by omega
        exact Decidable.not_not.1 h3
  · obtain rfl : i = 2 := by omega
    (repeat (first | refine gst (hk := ?_) | (show GO _ _ _ _ _ (⟨some _, none, _⟩ :: _) _; first | refine go_op (hk := ?_) | (refine go_nw (hk := ?_); intro u; try simp only [llc, lln, lna, lza]) | (refine go_np (hk := ?_); intro id)) | (show GO _ _ _ _ _ (⟨none, none, _⟩ :: _) _; refine go_st (hk := ?_)) | (show GO _ _ _ _ _ (⟨_, some _, _⟩ :: _) _; first | refine go_in (hk := ?_) | refine go_out (hk := ?_) | refine go_void (hk := ?_)) | (show GK _ _ _ _ (blockK _ _ _); refine gk_past rfl ?_) | (show GC _ _ _ _ _ (.cond _ _ _) _; first | refine gc_yes (h1 := ?_) | refine gc_no (h1 := ?_))))
    exact gk_ret rfl fun H' hH => ⟨by rw [orI, if_pos (h1 (by omega)), h2 (by omega)]; rfl, hH.leE⟩

theorem offerCompare_ok {H : Heap} {s t : Rat × Nat} (hf : FitA s.1 t.1) (hs : s.2 ≤ 1000) (ht : t.2 ≤ 1000) :
    ACalls Try.prog fn_impl_offer_compare [ofV s, ofV t] H fun r H' => r = .int .i64 (orI (cmR s.1 t.1) (sgn ((s.2 : Int) - (t.2 : Int)))) ∧ H' = H := by
  refine ACalls.val ?_ rfl
  unfold ofV ofC
  refine code_impl_offer_compare.go [] trivial (by simp) ?_
  unfold mc_impl_offer_compare
  (repeat (first | refine gst (hk := ?_) | (refine gq_call rfl (fun _ => qtCmp_is) ?_) | (show GO _ _ _ _ _ (⟨some _, none, _⟩ :: _) _; first | refine go_op (hk := ?_) | (refine go_nw (hk := ?_); intro u; try simp only [llc, lln, lna, lza]) | (refine go_np (hk := ?_); intro id)) | (show GQ _ _ _ _ _ _ _ (⟨some _, none, _⟩ :: _) _; first | refine gq_op (hk := ?_) | (refine gq_nw (hk := ?_); intro u; try simp only [llc, lln, lna, lza])) | (show GO _ _ _ _ _ (⟨none, none, _⟩ :: _) _; refine go_st (hk := ?_)) | (show GO _ _ _ _ _ (⟨_, some _, _⟩ :: _) _; first | refine go_in (hk := ?_) | refine go_out (hk := ?_) | refine go_void (hk := ?_)) | (show GQ _ _ _ _ _ _ _ (⟨_, some _, _⟩ :: _) _; first | refine gq_in (hk := ?_) | refine gq_out (hk := ?_) | refine gq_void (hk := ?_)) | (show GK _ _ _ _ (blockK _ _ _); refine gk_past rfl ?_) | (show GC _ _ _ _ _ (.cond _ _ _) _; first | refine gc_yes (h1 := ?_) | refine gc_no (h1 := ?_))))
  refine gc_drqt (fun H => qtTab [(fn_impl_Frac_compare, dOne [frV s.1, frV t.1] (.int .i64 (cmR s.1 t.1)))]) (fun H hH => qtTab_cons (dOne_ok code_impl_Frac_compare.callable (implCompare_ok hf)) qtTab_nil) (fun H0 => ?_)
  (repeat (first | refine gst (hk := ?_) | (with_reducible refine gc_drq ?_; intro _) | (refine gq_call rfl (fun _ => qtCmp_is) ?_) | (show GO _ _ _ _ _ (⟨some _, none, _⟩ :: _) _; first | refine go_op (hk := ?_) | (refine go_nw (hk := ?_); intro u; try simp only [llc, lln, lna, lza]) | (refine go_np (hk := ?_); intro id)) | (show GQ _ _ _ _ _ _ _ (⟨some _, none, _⟩ :: _) _; first | refine gq_op (hk := ?_) | (refine gq_nw (hk := ?_); intro u; try simp only [llc, lln, lna, lza])) | (show GO _ _ _ _ _ (⟨none, none, _⟩ :: _) _; refine go_st (hk := ?_)) | (show GO _ _ _ _ _ (⟨_, some _, _⟩ :: _) _; first | refine go_in (hk := ?_) | refine go_out (hk := ?_) | refine go_void (hk := ?_)) | (show GQ _ _ _ _ _ _ _ (⟨_, some _, _⟩ :: _) _; first | refine gq_in (hk := ?_) | refine gq_out (hk := ?_) | refine gq_void (hk := ?_)) | (show GK _ _ _ _ (blockK _ _ _); refine gk_past rfl ?_) | (show GC _ _ _ _ _ (.cond _ _ _) _; first | refine gc_yes (h1 := ?_) | refine gc_no (h1 := ?_))))
  refine gq_call rfl (fun _ => dOne_is) ?_
  (repeat (first | refine gst (hk := ?_) | (with_reducible refine gc_drq ?_; intro _) | (refine gq_call rfl (fun _ => qtCmp_is) ?_) | (show GO _ _ _ _ _ (⟨some _, none, _⟩ :: _) _; first | refine go_op (hk := ?_) | (refine go_nw (hk := ?_); intro u; try simp only [llc, lln, lna, lza]) | (refine go_np (hk := ?_); intro id)) | (show GQ _ _ _ _ _ _ _ (⟨some _, none, _⟩ :: _) _; first | refine gq_op (hk := ?_) | (refine gq_nw (hk := ?_); intro u; try simp only [llc, lln, lna, lza])) | (show GO _ _ _ _ _ (⟨none, none, _⟩ :: _) _; refine go_st (hk := ?_)) | (show GO _ _ _ _ _ (⟨_, some _, _⟩ :: _) _; first | refine go_in (hk := ?_) | refine go_out (hk := ?_) | refine go_void (hk := ?_)) | (show GQ _ _ _ _ _ _ _ (⟨_, some _, _⟩ :: _) _; first | refine gq_in (hk := ?_) | refine gq_out (hk := ?_) | refine gq_void (hk := ?_)) | (show GK _ _ _ _ (blockK _ _ _); refine gk_past rfl ?_) | (show GC _ _ _ _ _ (.cond _ _ _) _; first | refine gc_yes (h1 := ?_) | refine gc_no (h1 := ?_))))
  refine go_callp rfl code_cmp_Compare_int.callable (fun H hH => compare_ok (m := (s.2 : Int)) (n := (t.2 : Int))) ?_
  (repeat (first | refine gst (hk := ?_) | (with_reducible refine gc_drq ?_; intro _) | (refine gq_call rfl (fun _ => qtCmp_is) ?_) | (show GO _ _ _ _ _ (⟨some _, none, _⟩ :: _) _; first | refine go_op (hk := ?_) | (refine go_nw (hk := ?_); intro u; try simp only [llc, lln, lna, lza]) | (refine go_np (hk := ?_); intro id)) | (show GQ _ _ _ _ _ _ _ (⟨some _, none, _⟩ :: _) _; first | refine gq_op (hk := ?_) | (refine gq_nw (hk := ?_); intro u; try simp only [llc, lln, lna, lza])) | (show GO _ _ _ _ _ (⟨none, none, _⟩ :: _) _; refine go_st (hk := ?_)) | (show GO _ _ _ _ _ (⟨_, some _, _⟩ :: _) _; first | refine go_in (hk := ?_) | refine go_out (hk := ?_) | refine go_void (hk := ?_)) | (show GQ _ _ _ _ _ _ _ (⟨_, some _, _⟩ :: _) _; first | refine gq_in (hk := ?_) | refine gq_out (hk := ?_) | refine gq_void (hk := ?_)) | (show GK _ _ _ _ (blockK _ _ _); refine gk_past rfl ?_) | (show GC _ _ _ _ _ (.cond _ _ _) _; first | refine gc_yes (h1 := ?_) | refine gc_no (h1 := ?_))))
  refine go_callp rfl code_cmp_Or_int.callable (fun H hH => cmpOr_ok (a := cmR s.1 t.1) (b := sgn ((s.2 : Int) - (t.2 : Int))) (hH.ints (n := 2) (by exact Has.rw))) ?_
  (repeat (first | refine gst (hk := ?_) | (with_reducible refine gc_drq ?_; intro _) | (refine gq_call rfl (fun _ => qtCmp_is) ?_) | (show GO _ _ _ _ _ (⟨some _, none, _⟩ :: _) _; first | refine go_op (hk := ?_) | (refine go_nw (hk := ?_); intro u; try simp only [llc, lln, lna, lza]) | (refine go_np (hk := ?_); intro id)) | (show GQ _ _ _ _ _ _ _ (⟨some _, none, _⟩ :: _) _; first | refine gq_op (hk := ?_) | (refine gq_nw (hk := ?_); intro u; try simp only [llc, lln, lna, lza])) | (show GO _ _ _ _ _ (⟨none, none, _⟩ :: _) _; refine go_st (hk := ?_)) | (show GO _ _ _ _ _ (⟨_, some _, _⟩ :: _) _; first | refine go_in (hk := ?_) | refine go_out (hk := ?_) | refine go_void (hk := ?_)) | (show GQ _ _ _ _ _ _ _ (⟨_, some _, _⟩ :: _) _; first | refine gq_in (hk := ?_) | refine gq_out (hk := ?_) | refine gq_void (hk := ?_)) | (show GK _ _ _ _ (blockK _ _ _); refine gk_past rfl ?_) | (show GC _ _ _ _ _ (.cond _ _ _) _; first | refine gc_yes (h1 := ?_) | refine gc_no (h1 := ?_))))
  exact gk_ret rfl fun H' hH => ⟨rfl, hH.leE⟩

theorem leastO_ok {H : Heap} {w : AV} {g : Nat → Rat × Nat} {L : List (Rat × Nat)} (hw : Vals H w 3 L.length (ofs L)) (hL : ∀ i, i < L.length → nthO L i = g (i + 1)) (hl : L.length ≤ 1000000) (hf : ∀ i j, i ≤ L.length → j ≤ L.length → FitA (g i).1 (g j).1) (hb : ∀ i, i ≤ L.length → (g i).2 ≤ 1000) :
    ACalls Try.prog fn_impl_least_impl_offer [ofV (g 0), w] H fun r H' => r = ofV (lfO g L.length) ∧ H' = H := by
  refine ACalls.val ?_ rfl
  refine code_impl_least_impl_offer.go [⟨.ro, w, 3, L.length, ofs L⟩] ⟨⟨rfl, hw⟩, trivial⟩ (by simp) ?_
  unfold mc_impl_least_impl_offer
  (repeat (first | refine gst (hk := ?_) | (show GO _ _ _ _ _ (⟨some _, none, .inv _ _ _⟩ :: _) _; refine go_inv rfl rfl ?_) | (show GQ _ _ _ _ _ _ _ (⟨some _, none, .inv _ _ _⟩ :: _) _; refine gq_inv rfl rfl ?_) | (show GR _ _ _ _ _ _ (⟨some _, none, .inv _ _ _⟩ :: _) _; refine gr_inv rfl rfl ?_) | (show GO _ _ _ _ _ (⟨some _, none, _⟩ :: _) _; first | refine go_op (hk := ?_) | (refine go_nw (hk := ?_); intro u; try simp only [llc, lln, lna, lza]) | (refine go_np (hk := ?_); intro id)) | (show GO _ _ _ _ _ (⟨none, none, _⟩ :: _) _; refine go_st (hk := ?_)) | (show GO _ _ _ _ _ (⟨_, some _, _⟩ :: _) _; first | refine go_in (hk := ?_) | refine go_out (hk := ?_) | refine go_void (hk := ?_)) | (show GK _ _ _ _ (blockK _ _ _); refine gk_past rfl ?_) | (show GC _ _ _ _ _ (.cond _ _ _) _; first | refine gc_yes (h1 := ?_) | refine gc_no (h1 := ?_))))
  rename_i i2
  revert id; intro i4
  refine gc_up L.length (fun i => [(2, .ptr i2 0), (4, .ptr i4 0), (7, w), (8, .int .i64 (L.length : Int)), (9, .int .i64 (i : Int))]) (fun i => [celOf i2 (lfO g i), ⟨.cell, .ptr i4 0, 3, 1, [.int .i64 0, .int .i64 0, .int .i64 0]⟩, ⟨.ro, w, 3, L.length, ofs L⟩]) (hb := ?_)
  intro i hi I ν m hk
  (repeat (first | refine gst (hk := ?_) | (show GO _ _ _ _ _ (⟨some _, none, .inv _ _ _⟩ :: _) _; refine go_inv rfl rfl ?_) | (show GQ _ _ _ _ _ _ _ (⟨some _, none, .inv _ _ _⟩ :: _) _; refine gq_inv rfl rfl ?_) | (show GR _ _ _ _ _ _ (⟨some _, none, .inv _ _ _⟩ :: _) _; refine gr_inv rfl rfl ?_) | (show GO _ _ _ _ _ (⟨some _, none, _⟩ :: _) _; first | refine go_op (hk := ?_) | (refine go_nw (hk := ?_); intro u; try simp only [llc, lln, lna, lza]) | (refine go_np (hk := ?_); intro id)) | (show GO _ _ _ _ _ (⟨none, none, _⟩ :: _) _; refine go_st (hk := ?_)) | (show GO _ _ _ _ _ (⟨_, some _, _⟩ :: _) _; first | refine go_in (hk := ?_) | refine go_out (hk := ?_) | refine go_void (hk := ?_)) | (show GK _ _ _ _ (blockK _ _ _); refine gk_past rfl ?_) | (show GC _ _ _ _ _ (.cond _ _ _) _; first | refine gc_yes (h1 := ?_) | refine gc_no (h1 := ?_))))
  refine gc_cond rfl (fun h => ?_) (fun h => ?_)
  · have hk := hk (by omega)
    rw [lfO] at hk
    obtain ⟨j, hj, ej⟩ := (lfO_is g i).1
    have hfit : FitA (g (i + 1)).1 (lfO g i).1 := by rw [ej]; exact hf _ _ (by omega) (by omega)
    have b1 := hb (i + 1) (by omega)
    have b2 : (lfO g i).2 ≤ 1000 := by rw [ej]; exact hb _ (by omega)
    (repeat (first | refine gst (hk := ?_) | (show GO _ _ _ _ _ (⟨some _, none, .inv _ _ _⟩ :: _) _; refine go_inv rfl rfl ?_) | (show GQ _ _ _ _ _ _ _ (⟨some _, none, .inv _ _ _⟩ :: _) _; refine gq_inv rfl rfl ?_) | (show GR _ _ _ _ _ _ (⟨some _, none, .inv _ _ _⟩ :: _) _; refine gr_inv rfl rfl ?_) | (show GO _ _ _ _ _ (⟨some _, none, _⟩ :: _) _; first | refine go_op (hk := ?_) | (refine go_nw (hk := ?_); intro u; try simp only [llc, lln, lna, lza]) | (refine go_np (hk := ?_); intro id)) | (show GO _ _ _ _ _ (⟨none, none, _⟩ :: _) _; refine go_st (hk := ?_)) | (show GO _ _ _ _ _ (⟨_, some _, _⟩ :: _) _; first | refine go_in (hk := ?_) | refine go_out (hk := ?_) | refine go_void (hk := ?_)) | (show GK _ _ _ _ (blockK _ _ _); refine gk_past rfl ?_) | (show GC _ _ _ _ _ (.cond _ _ _) _; first | refine gc_yes (h1 := ?_) | refine gc_no (h1 := ?_))))
    refine go_is rfl (stp_ldK cels_of (0, 0) (i := i) rfl (by exact Has.auto) rfl (by omega)) ?_
    rw [show nthA (0, 0) L i = g (i + 1) from hL i (by omega)]
    generalize g (i + 1) = t1 at *
    generalize hst : lfO g i = t0 at *
    unfold celOf ofC
    (repeat (first | refine gst (hk := ?_) | (show GO _ _ _ _ _ (⟨some _, none, .inv _ _ _⟩ :: _) _; refine go_inv rfl rfl ?_) | (show GQ _ _ _ _ _ _ _ (⟨some _, none, .inv _ _ _⟩ :: _) _; refine gq_inv rfl rfl ?_) | (show GR _ _ _ _ _ _ (⟨some _, none, .inv _ _ _⟩ :: _) _; refine gr_inv rfl rfl ?_) | (show GO _ _ _ _ _ (⟨some _, none, _⟩ :: _) _; first | refine go_op (hk := ?_) | (refine go_nw (hk := ?_); intro u; try simp only [llc, lln, lna, lza]) | (refine go_np (hk := ?_); intro id)) | (show GO _ _ _ _ _ (⟨none, none, _⟩ :: _) _; refine go_st (hk := ?_)) | (show GO _ _ _ _ _ (⟨_, some _, _⟩ :: _) _; first | refine go_in (hk := ?_) | refine go_out (hk := ?_) | refine go_void (hk := ?_)) | (show GK _ _ _ _ (blockK _ _ _); refine gk_past rfl ?_) | (show GC _ _ _ _ _ (.cond _ _ _) _; first | refine gc_yes (h1 := ?_) | refine gc_no (h1 := ?_))))
    refine go_callp rfl code_impl_offer_compare.callable (fun H hH => offerCompare_ok (s := t1) (t := t0) hfit b1 b2) ?_
    (repeat (first | refine gst (hk := ?_) | (show GO _ _ _ _ _ (⟨some _, none, .inv _ _ _⟩ :: _) _; refine go_inv rfl rfl ?_) | (show GQ _ _ _ _ _ _ _ (⟨some _, none, .inv _ _ _⟩ :: _) _; refine gq_inv rfl rfl ?_) | (show GR _ _ _ _ _ _ (⟨some _, none, .inv _ _ _⟩ :: _) _; refine gr_inv rfl rfl ?_) | (show GO _ _ _ _ _ (⟨some _, none, _⟩ :: _) _; first | refine go_op (hk := ?_) | (refine go_nw (hk := ?_); intro u; try simp only [llc, lln, lna, lza]) | (refine go_np (hk := ?_); intro id)) | (show GO _ _ _ _ _ (⟨none, none, _⟩ :: _) _; refine go_st (hk := ?_)) | (show GO _ _ _ _ _ (⟨_, some _, _⟩ :: _) _; first | refine go_in (hk := ?_) | refine go_out (hk := ?_) | refine go_void (hk := ?_)) | (show GK _ _ _ _ (blockK _ _ _); refine gk_past rfl ?_) | (show GC _ _ _ _ _ (.cond _ _ _) _; first | refine gc_yes (h1 := ?_) | refine gc_no (h1 := ?_))))
    refine gc_cond rfl (fun h1 => ?_) (fun h1 => ?_)
    · rw [if_pos (orI_neg.1 h1)] at hk
      (repeat (first | refine gst (hk := ?_) | (show GO _ _ _ _ _ (⟨some _, none, .inv _ _ _⟩ :: _) _; refine go_inv rfl rfl ?_) | (show GQ _ _ _ _ _ _ _ (⟨some _, none, .inv _ _ _⟩ :: _) _; refine gq_inv rfl rfl ?_) | (show GR _ _ _ _ _ _ (⟨some _, none, .inv _ _ _⟩ :: _) _; refine gr_inv rfl rfl ?_) | (show GO _ _ _ _ _ (⟨some _, none, _⟩ :: _) _; first | refine go_op (hk := ?_) | (refine go_nw (hk := ?_); intro u; try simp only [llc, lln, lna, lza]) | (refine go_np (hk := ?_); intro id)) | (show GO _ _ _ _ _ (⟨none, none, _⟩ :: _) _; refine go_st (hk := ?_)) | (show GO _ _ _ _ _ (⟨_, some _, _⟩ :: _) _; first | refine go_in (hk := ?_) | refine go_out (hk := ?_) | refine go_void (hk := ?_)) | (show GK _ _ _ _ (blockK _ _ _); refine gk_past rfl ?_) | (show GC _ _ _ _ _ (.cond _ _ _) _; first | refine gc_yes (h1 := ?_) | refine gc_no (h1 := ?_))))
      exact gk_next hk
    · rw [if_neg (fun h2 => h1 (orI_neg.2 h2))] at hk
      (repeat (first | refine gst (hk := ?_) | (show GO _ _ _ _ _ (⟨some _, none, .inv _ _ _⟩ :: _) _; refine go_inv rfl rfl ?_) | (show GQ _ _ _ _ _ _ _ (⟨some _, none, .inv _ _ _⟩ :: _) _; refine gq_inv rfl rfl ?_) | (show GR _ _ _ _ _ _ (⟨some _, none, .inv _ _ _⟩ :: _) _; refine gr_inv rfl rfl ?_) | (show GO _ _ _ _ _ (⟨some _, none, _⟩ :: _) _; first | refine go_op (hk := ?_) | (refine go_nw (hk := ?_); intro u; try simp only [llc, lln, lna, lza]) | (refine go_np (hk := ?_); intro id)) | (show GO _ _ _ _ _ (⟨none, none, _⟩ :: _) _; refine go_st (hk := ?_)) | (show GO _ _ _ _ _ (⟨_, some _, _⟩ :: _) _; first | refine go_in (hk := ?_) | refine go_out (hk := ?_) | refine go_void (hk := ?_)) | (show GK _ _ _ _ (blockK _ _ _); refine gk_past rfl ?_) | (show GC _ _ _ _ _ (.cond _ _ _) _; first | refine gc_yes (h1 := ?_) | refine gc_no (h1 := ?_))))
      exact gk_next hk
  · have : i = L.length := by omega
    subst this
    generalize hst : lfO g L.length = t0 at *
    unfold celOf ofC
    (repeat (first | refine gst (hk := ?_) | (show GO _ _ _ _ _ (⟨some _, none, .inv _ _ _⟩ :: _) _; refine go_inv rfl rfl ?_) | (show GQ _ _ _ _ _ _ _ (⟨some _, none, .inv _ _ _⟩ :: _) _; refine gq_inv rfl rfl ?_) | (show GR _ _ _ _ _ _ (⟨some _, none, .inv _ _ _⟩ :: _) _; refine gr_inv rfl rfl ?_) | (show GO _ _ _ _ _ (⟨some _, none, _⟩ :: _) _; first | refine go_op (hk := ?_) | (refine go_nw (hk := ?_); intro u; try simp only [llc, lln, lna, lza]) | (refine go_np (hk := ?_); intro id)) | (show GO _ _ _ _ _ (⟨none, none, _⟩ :: _) _; refine go_st (hk := ?_)) | (show GO _ _ _ _ _ (⟨_, some _, _⟩ :: _) _; first | refine go_in (hk := ?_) | refine go_out (hk := ?_) | refine go_void (hk := ?_)) | (show GK _ _ _ _ (blockK _ _ _); refine gk_past rfl ?_) | (show GC _ _ _ _ _ (.cond _ _ _) _; first | refine gc_yes (h1 := ?_) | refine gc_no (h1 := ?_))))
    exact gk_retc rfl (by exact Sel.auto) rfl rfl fun H' hH => ⟨rfl, hH.leE⟩

end Go.Rx.Try
