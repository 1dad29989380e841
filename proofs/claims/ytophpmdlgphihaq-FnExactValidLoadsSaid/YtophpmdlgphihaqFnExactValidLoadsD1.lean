import Derived.Test.YtophpmdlgphihaqFnExactValidLoadsCode
import Derived.Test.YtophpmdlgphihaqRxJ
namespace Go.Rx.Try
open Go.Proofs
set_option maxRecDepth 100000
set_option maxHeartbeats 8000000
set_option linter.unusedSimpArgs false
set_option linter.unusedVariables false

theorem eqIntS_ok {H : Heap} {a b : AV} {xs ys : List Int} (ha : Ints H a xs) (hb : Ints H b ys) (hl : xs.length ≤ 1000000000) : ACalls Try.prog fn_laws_eqIntS [a, b] H fun r H' => r = .bool (decide (xs = ys)) ∧ H' = H := by
  refine ACalls.val ?_ rfl
  refine code_laws_eqIntS.go [.roI a xs.length xs, .roI b ys.length ys] ⟨⟨rfl, ha⟩, ⟨rfl, hb⟩, trivial⟩ (by simp) ?_
  unfold mc_laws_eqIntS
  (repeat (first | refine gst (hk := ?_) | (with_reducible refine gc_drq ?_; intro _) | (show GO _ _ _ _ _ (⟨some _, none, _⟩ :: _) _; first | refine go_op (hk := ?_) | (refine go_nw (hk := ?_); intro u; try simp only [llc, lln, lna, lza]) | (refine go_np (hk := ?_); intro id)) | (show GQ _ _ _ _ _ _ _ (⟨some _, none, _⟩ :: _) _; first | refine gq_op (hk := ?_) | (refine gq_nw (hk := ?_); intro u; try simp only [llc, lln, lna, lza])) | (show GO _ _ _ _ _ (⟨none, none, _⟩ :: _) _; refine go_st (hk := ?_)) | (show GO _ _ _ _ _ (⟨_, some _, _⟩ :: _) _; first | refine go_in (hk := ?_) | refine go_out (hk := ?_) | refine go_void (hk := ?_)) | (show GQ _ _ _ _ _ _ _ (⟨_, some _, _⟩ :: _) _; first | refine gq_in (hk := ?_) | refine gq_out (hk := ?_) | refine gq_void (hk := ?_)) | (show GK _ _ _ _ (blockK _ _ _); refine gk_past rfl ?_) | (show GC _ _ _ _ _ (.cond _ _ _) _; first | refine gc_yes (h1 := ?_) | refine gc_no (h1 := ?_))))
  refine gc_cond rfl (fun h => ?_) (fun h => ?_)
  · (repeat (first | refine gst (hk := ?_) | (with_reducible refine gc_drq ?_; intro _) | (show GO _ _ _ _ _ (⟨some _, none, _⟩ :: _) _; first | refine go_op (hk := ?_) | (refine go_nw (hk := ?_); intro u; try simp only [llc, lln, lna, lza]) | (refine go_np (hk := ?_); intro id)) | (show GQ _ _ _ _ _ _ _ (⟨some _, none, _⟩ :: _) _; first | refine gq_op (hk := ?_) | (refine gq_nw (hk := ?_); intro u; try simp only [llc, lln, lna, lza])) | (show GO _ _ _ _ _ (⟨none, none, _⟩ :: _) _; refine go_st (hk := ?_)) | (show GO _ _ _ _ _ (⟨_, some _, _⟩ :: _) _; first | refine go_in (hk := ?_) | refine go_out (hk := ?_) | refine go_void (hk := ?_)) | (show GQ _ _ _ _ _ _ _ (⟨_, some _, _⟩ :: _) _; first | refine gq_in (hk := ?_) | refine gq_out (hk := ?_) | refine gq_void (hk := ?_)) | (show GK _ _ _ _ (blockK _ _ _); refine gk_past rfl ?_) | (show GC _ _ _ _ _ (.cond _ _ _) _; first | refine gc_yes (h1 := ?_) | refine gc_no (h1 := ?_))))
    refine gk_ret rfl fun H' hH => ⟨?_, hH.leE⟩
    have : ¬ xs = ys := by intro e; subst e; exact h rfl
    simp [tupleOf, this]
  have hlen : xs.length = ys.length := by omega
  (repeat (first | refine gst (hk := ?_) | (with_reducible refine gc_drq ?_; intro _) | (show GO _ _ _ _ _ (⟨some _, none, _⟩ :: _) _; first | refine go_op (hk := ?_) | (refine go_nw (hk := ?_); intro u; try simp only [llc, lln, lna, lza]) | (refine go_np (hk := ?_); intro id)) | (show GQ _ _ _ _ _ _ _ (⟨some _, none, _⟩ :: _) _; first | refine gq_op (hk := ?_) | (refine gq_nw (hk := ?_); intro u; try simp only [llc, lln, lna, lza])) | (show GO _ _ _ _ _ (⟨none, none, _⟩ :: _) _; refine go_st (hk := ?_)) | (show GO _ _ _ _ _ (⟨_, some _, _⟩ :: _) _; first | refine go_in (hk := ?_) | refine go_out (hk := ?_) | refine go_void (hk := ?_)) | (show GQ _ _ _ _ _ _ _ (⟨_, some _, _⟩ :: _) _; first | refine gq_in (hk := ?_) | refine gq_out (hk := ?_) | refine gq_void (hk := ?_)) | (show GK _ _ _ _ (blockK _ _ _); refine gk_past rfl ?_) | (show GC _ _ _ _ _ (.cond _ _ _) _; first | refine gc_yes (h1 := ?_) | refine gc_no (h1 := ?_))))
  refine gc_loop (fun i : Nat => [(0, a), (1, b), (5, .int .i64 (i : Int))]) (fun _ => [.roI a xs.length xs, .roI b ys.length ys]) (fun i => i ≤ xs.length ∧ ∀ k < i, nth xs k = nth ys k) (fun i => xs.length - i) 0 ⟨Nat.zero_le _, by simp⟩ (hb := ?_)
  rintro i ⟨hi, hk⟩ I ν m hn
  (repeat (first | refine gst (hk := ?_) | (with_reducible refine gc_drq ?_; intro _) | (show GO _ _ _ _ _ (⟨some _, none, _⟩ :: _) _; first | refine go_op (hk := ?_) | (refine go_nw (hk := ?_); intro u; try simp only [llc, lln, lna, lza]) | (refine go_np (hk := ?_); intro id)) | (show GQ _ _ _ _ _ _ _ (⟨some _, none, _⟩ :: _) _; first | refine gq_op (hk := ?_) | (refine gq_nw (hk := ?_); intro u; try simp only [llc, lln, lna, lza])) | (show GO _ _ _ _ _ (⟨none, none, _⟩ :: _) _; refine go_st (hk := ?_)) | (show GO _ _ _ _ _ (⟨_, some _, _⟩ :: _) _; first | refine go_in (hk := ?_) | refine go_out (hk := ?_) | refine go_void (hk := ?_)) | (show GQ _ _ _ _ _ _ _ (⟨_, some _, _⟩ :: _) _; first | refine gq_in (hk := ?_) | refine gq_out (hk := ?_) | refine gq_void (hk := ?_)) | (show GK _ _ _ _ (blockK _ _ _); refine gk_past rfl ?_) | (show GC _ _ _ _ _ (.cond _ _ _) _; first | refine gc_yes (h1 := ?_) | refine gc_no (h1 := ?_))))
  refine gc_cond rfl (fun h => ?_) (fun h => ?_)
  · (repeat (first | refine gst (hk := ?_) | (with_reducible refine gc_drq ?_; intro _) | (show GO _ _ _ _ _ (⟨some _, none, _⟩ :: _) _; first | refine go_op (hk := ?_) | (refine go_nw (hk := ?_); intro u; try simp only [llc, lln, lna, lza]) | (refine go_np (hk := ?_); intro id)) | (show GQ _ _ _ _ _ _ _ (⟨some _, none, _⟩ :: _) _; first | refine gq_op (hk := ?_) | (refine gq_nw (hk := ?_); intro u; try simp only [llc, lln, lna, lza])) | (show GO _ _ _ _ _ (⟨none, none, _⟩ :: _) _; refine go_st (hk := ?_)) | (show GO _ _ _ _ _ (⟨_, some _, _⟩ :: _) _; first | refine go_in (hk := ?_) | refine go_out (hk := ?_) | refine go_void (hk := ?_)) | (show GQ _ _ _ _ _ _ _ (⟨_, some _, _⟩ :: _) _; first | refine gq_in (hk := ?_) | refine gq_out (hk := ?_) | refine gq_void (hk := ?_)) | (show GK _ _ _ _ (blockK _ _ _); refine gk_past rfl ?_) | (show GC _ _ _ _ _ (.cond _ _ _) _; first | refine gc_yes (h1 := ?_) | refine gc_no (h1 := ?_))))
    refine gc_cond rfl (fun he => ?_) (fun he => ?_)
    · (repeat (first | refine gst (hk := ?_) | (with_reducible refine gc_drq ?_; intro _) | (show GO _ _ _ _ _ (⟨some _, none, _⟩ :: _) _; first | refine go_op (hk := ?_) | (refine go_nw (hk := ?_); intro u; try simp only [llc, lln, lna, lza]) | (refine go_np (hk := ?_); intro id)) | (show GQ _ _ _ _ _ _ _ (⟨some _, none, _⟩ :: _) _; first | refine gq_op (hk := ?_) | (refine gq_nw (hk := ?_); intro u; try simp only [llc, lln, lna, lza])) | (show GO _ _ _ _ _ (⟨none, none, _⟩ :: _) _; refine go_st (hk := ?_)) | (show GO _ _ _ _ _ (⟨_, some _, _⟩ :: _) _; first | refine go_in (hk := ?_) | refine go_out (hk := ?_) | refine go_void (hk := ?_)) | (show GQ _ _ _ _ _ _ _ (⟨_, some _, _⟩ :: _) _; first | refine gq_in (hk := ?_) | refine gq_out (hk := ?_) | refine gq_void (hk := ?_)) | (show GK _ _ _ _ (blockK _ _ _); refine gk_past rfl ?_) | (show GC _ _ _ _ _ (.cond _ _ _) _; first | refine gc_yes (h1 := ?_) | refine gc_no (h1 := ?_))))
      refine gk_ret rfl fun H' hH => ⟨?_, hH.leE⟩
      have : ¬ xs = ys := by intro e; subst e; exact he rfl
      simp [tupleOf, this]
    · (repeat (first | refine gst (hk := ?_) | (with_reducible refine gc_drq ?_; intro _) | (show GO _ _ _ _ _ (⟨some _, none, _⟩ :: _) _; first | refine go_op (hk := ?_) | (refine go_nw (hk := ?_); intro u; try simp only [llc, lln, lna, lza]) | (refine go_np (hk := ?_); intro id)) | (show GQ _ _ _ _ _ _ _ (⟨some _, none, _⟩ :: _) _; first | refine gq_op (hk := ?_) | (refine gq_nw (hk := ?_); intro u; try simp only [llc, lln, lna, lza])) | (show GO _ _ _ _ _ (⟨none, none, _⟩ :: _) _; refine go_st (hk := ?_)) | (show GO _ _ _ _ _ (⟨_, some _, _⟩ :: _) _; first | refine go_in (hk := ?_) | refine go_out (hk := ?_) | refine go_void (hk := ?_)) | (show GQ _ _ _ _ _ _ _ (⟨_, some _, _⟩ :: _) _; first | refine gq_in (hk := ?_) | refine gq_out (hk := ?_) | refine gq_void (hk := ?_)) | (show GK _ _ _ _ (blockK _ _ _); refine gk_past rfl ?_) | (show GC _ _ _ _ _ (.cond _ _ _) _; first | refine gc_yes (h1 := ?_) | refine gc_no (h1 := ?_))))
      refine gk_next (hn (i + 1) ⟨by omega, ?_⟩ (by omega))
      intro k hk'
      by_cases hki : k = i
      · subst hki; omega
      · exact hk k (by omega)
  · (repeat (first | refine gst (hk := ?_) | (with_reducible refine gc_drq ?_; intro _) | (show GO _ _ _ _ _ (⟨some _, none, _⟩ :: _) _; first | refine go_op (hk := ?_) | (refine go_nw (hk := ?_); intro u; try simp only [llc, lln, lna, lza]) | (refine go_np (hk := ?_); intro id)) | (show GQ _ _ _ _ _ _ _ (⟨some _, none, _⟩ :: _) _; first | refine gq_op (hk := ?_) | (refine gq_nw (hk := ?_); intro u; try simp only [llc, lln, lna, lza])) | (show GO _ _ _ _ _ (⟨none, none, _⟩ :: _) _; refine go_st (hk := ?_)) | (show GO _ _ _ _ _ (⟨_, some _, _⟩ :: _) _; first | refine go_in (hk := ?_) | refine go_out (hk := ?_) | refine go_void (hk := ?_)) | (show GQ _ _ _ _ _ _ _ (⟨_, some _, _⟩ :: _) _; first | refine gq_in (hk := ?_) | refine gq_out (hk := ?_) | refine gq_void (hk := ?_)) | (show GK _ _ _ _ (blockK _ _ _); refine gk_past rfl ?_) | (show GC _ _ _ _ _ (.cond _ _ _) _; first | refine gc_yes (h1 := ?_) | refine gc_no (h1 := ?_))))
    refine gk_ret rfl fun H' hH => ⟨?_, hH.leE⟩
    have : xs = ys := list_ext_getD hlen fun k hk' => hk k (by omega)
    simp [tupleOf, this]

theorem toIntS_ok {H : Heap} {a : AV} {xs : List Int} (ha : Ints H a xs) (hl : xs.length ≤ 1000000000) : ACalls Try.prog fn_laws_toIntS [a] H fun r H' => OwnI H H' r xs ∧ Le H H' := by
  refine code_laws_toIntS.go [.roI a xs.length xs] ⟨⟨rfl, ha⟩, trivial⟩ (by simp) ?_
  unfold mc_laws_toIntS
  (repeat (first | refine gst (hk := ?_) | (show GO _ _ _ _ _ (⟨some _, none, _⟩ :: _) _; first | refine go_op (hk := ?_) | (refine go_nw (hk := ?_); intro u; try simp only [llc, lln, lna, lza]) | (refine go_np (hk := ?_); intro id)) | (show GO _ _ _ _ _ (⟨none, none, _⟩ :: _) _; refine go_st (hk := ?_)) | (show GO _ _ _ _ _ (⟨_, some _, _⟩ :: _) _; first | refine go_in (hk := ?_) | refine go_out (hk := ?_) | refine go_void (hk := ?_)) | (show GK _ _ _ _ (blockK _ _ _); refine gk_past rfl ?_) | (show GC _ _ _ _ _ (.cond _ _ _) _; first | refine gc_yes (h1 := ?_) | refine gc_no (h1 := ?_))))
  refine gc_up xs.length (fun i => [(0, a), (3, u), (4, .int .i64 (i : Int))]) (fun i => [.rwI u xs.length (xs.take i ++ List.replicate (xs.length - i) 0), .roI a xs.length xs]) (hb := ?_)
  intro i hi I ν m hn
  (repeat (first | refine gst (hk := ?_) | (show GO _ _ _ _ _ (⟨some _, none, _⟩ :: _) _; first | refine go_op (hk := ?_) | (refine go_nw (hk := ?_); intro u; try simp only [llc, lln, lna, lza]) | (refine go_np (hk := ?_); intro id)) | (show GO _ _ _ _ _ (⟨none, none, _⟩ :: _) _; refine go_st (hk := ?_)) | (show GO _ _ _ _ _ (⟨_, some _, _⟩ :: _) _; first | refine go_in (hk := ?_) | refine go_out (hk := ?_) | refine go_void (hk := ?_)) | (show GK _ _ _ _ (blockK _ _ _); refine gk_past rfl ?_) | (show GC _ _ _ _ _ (.cond _ _ _) _; first | refine gc_yes (h1 := ?_) | refine gc_no (h1 := ?_))))
  refine gc_cond rfl (fun h => ?_) (fun h => ?_)
  · (repeat (first | refine gst (hk := ?_) | (show GO _ _ _ _ _ (⟨some _, none, _⟩ :: _) _; first | refine go_op (hk := ?_) | (refine go_nw (hk := ?_); intro u; try simp only [llc, lln, lna, lza]) | (refine go_np (hk := ?_); intro id)) | (show GO _ _ _ _ _ (⟨none, none, _⟩ :: _) _; refine go_st (hk := ?_)) | (show GO _ _ _ _ _ (⟨_, some _, _⟩ :: _) _; first | refine go_in (hk := ?_) | refine go_out (hk := ?_) | refine go_void (hk := ?_)) | (show GK _ _ _ _ (blockK _ _ _); refine gk_past rfl ?_) | (show GC _ _ _ _ _ (.cond _ _ _) _; first | refine gc_yes (h1 := ?_) | refine gc_no (h1 := ?_))))
    rw [fill_step (xs := xs) (by omega) _ rfl rfl]
    exact gk_next (hn (by omega))
  · (repeat (first | refine gst (hk := ?_) | (show GO _ _ _ _ _ (⟨some _, none, _⟩ :: _) _; first | refine go_op (hk := ?_) | (refine go_nw (hk := ?_); intro u; try simp only [llc, lln, lna, lza]) | (refine go_np (hk := ?_); intro id)) | (show GO _ _ _ _ _ (⟨none, none, _⟩ :: _) _; refine go_st (hk := ?_)) | (show GO _ _ _ _ _ (⟨_, some _, _⟩ :: _) _; first | refine go_in (hk := ?_) | refine go_out (hk := ?_) | refine go_void (hk := ?_)) | (show GK _ _ _ _ (blockK _ _ _); refine gk_past rfl ?_) | (show GC _ _ _ _ _ (.cond _ _ _) _; first | refine gc_yes (h1 := ?_) | refine gc_no (h1 := ?_))))
    have : i = xs.length := by omega
    subst this
    refine gk_ret rfl fun H' hH => ?_
    have := hH.give .head
    simpa [OwnI, tupleOf] using this

theorem go_toIntS {A : Heap} {X : List Nat} {E : List (Nat × AV)} {S : Sig} {K : St → Prop} {r : List MI} {d n : Nat} {v : AV} {x : MX} {xs : List Int} (hx : evE E x = some v := by exact rfl) (hh : Has S v 1 n (ints xs) := by exact Has.auto) (hl : n ≤ 1000000000 := by omega)
    (hk : ∀ u, GO Try.prog A X ((d, u) :: E) (.rwI u n xs :: S) r K) : GO Try.prog A X E S (⟨some d, none, .call fn_laws_toIntS [x]⟩ :: r) K := by
  have hn : n = xs.length ∨ n ≠ xs.length := by omega
  rcases hn with rfl | hn
  · refine go_calln (by simp only [evsE, hx]) code_laws_toIntS.callable (fun H hH => toIntS_ok (hH.ints hh) hl) hk
  · refine ⟨fun s hf => ?_⟩
    have h1 := (hf.ok.valsA hh).len
    have h2 := (hf.ok.ints hh).len
    omega

theorem go_eqIntS {A : Heap} {X : List Nat} {E : List (Nat × AV)} {S : Sig} {K : St → Prop} {r : List MI} {d n m : Nat} {v w : AV} {x y : MX} {xs ys : List Int} (hx : evE E x = some v := by exact rfl) (hy : evE E y = some w := by exact rfl) (hh : Has S v 1 n (ints xs) := by exact Has.auto) (hh' : Has S w 1 m (ints ys) := by exact Has.auto) (hl : n ≤ 1000000000 := by omega)
    (hk : GO Try.prog A X ((d, .bool (decide (xs = ys))) :: E) S r K) : GO Try.prog A X E S (⟨some d, none, .call fn_laws_eqIntS [x, y]⟩ :: r) K := by
  refine go_callp (by simp only [evsE, hx, hy]) code_laws_eqIntS.callable (fun H hH => eqIntS_ok (hH.ints hh) (hH.ints hh') ?_) hk
  have h1 := (hH.valsA hh).len
  have h2 := (hH.ints hh).len
  omega

theorem inRange_ok {H : Heap} {a b n : Int} : ACalls Try.prog fn_spec_inRange [.int .i64 n, .int .i64 a, .int .i64 b] H fun r H' => r = .bool (decide (a ≤ n ∧ n ≤ b)) ∧ H' = H := by
  refine ACalls.val ?_ rfl
  refine code_spec_inRange.go [] trivial (by simp) ?_
  unfold mc_spec_inRange
  (repeat (first | refine gst (hk := ?_) | (show GO _ _ _ _ _ (⟨some _, none, _⟩ :: _) _; first | refine go_op (hk := ?_) | (refine go_nw (hk := ?_); intro u; try simp only [llc, lln, lna, lza]) | (refine go_np (hk := ?_); intro id)) | (show GO _ _ _ _ _ (⟨none, none, _⟩ :: _) _; refine go_st (hk := ?_)) | (show GO _ _ _ _ _ (⟨_, some _, _⟩ :: _) _; first | refine go_in (hk := ?_) | refine go_out (hk := ?_) | refine go_void (hk := ?_)) | (show GK _ _ _ _ (blockK _ _ _); refine gk_past rfl ?_) | (show GC _ _ _ _ _ (.cond _ _ _) _; first | refine gc_yes (h1 := ?_) | refine gc_no (h1 := ?_))))
  refine go_split 10 rfl (fun h => ?_) (fun h => ?_)
  · (repeat (first | refine gst (hk := ?_) | (show GO _ _ _ _ _ (⟨some _, none, _⟩ :: _) _; first | refine go_op (hk := ?_) | (refine go_nw (hk := ?_); intro u; try simp only [llc, lln, lna, lza]) | (refine go_np (hk := ?_); intro id)) | (show GO _ _ _ _ _ (⟨none, none, _⟩ :: _) _; refine go_st (hk := ?_)) | (show GO _ _ _ _ _ (⟨_, some _, _⟩ :: _) _; first | refine go_in (hk := ?_) | refine go_out (hk := ?_) | refine go_void (hk := ?_)) | (show GK _ _ _ _ (blockK _ _ _); refine gk_past rfl ?_) | (show GC _ _ _ _ _ (.cond _ _ _) _; first | refine gc_yes (h1 := ?_) | refine gc_no (h1 := ?_))))
    refine gk_ret rfl fun H' hH => ⟨?_, hH.leE⟩
    simp [tupleOf, h]
  · (repeat (first | refine gst (hk := ?_) | (show GO _ _ _ _ _ (⟨some _, none, _⟩ :: _) _; first | refine go_op (hk := ?_) | (refine go_nw (hk := ?_); intro u; try simp only [llc, lln, lna, lza]) | (refine go_np (hk := ?_); intro id)) | (show GO _ _ _ _ _ (⟨none, none, _⟩ :: _) _; refine go_st (hk := ?_)) | (show GO _ _ _ _ _ (⟨_, some _, _⟩ :: _) _; first | refine go_in (hk := ?_) | refine go_out (hk := ?_) | refine go_void (hk := ?_)) | (show GK _ _ _ _ (blockK _ _ _); refine gk_past rfl ?_) | (show GC _ _ _ _ _ (.cond _ _ _) _; first | refine gc_yes (h1 := ?_) | refine gc_no (h1 := ?_))))
    refine gk_ret rfl fun H' hH => ⟨?_, hH.leE⟩
    simp [tupleOf, h]

theorem go_inRange {A : Heap} {X : List Nat} {E : List (Nat × AV)} {S : Sig} {K : St → Prop} {r : List MI} {d : Nat} {x y z : MX} {n a b : Int} (hx : evE E x = some (.int .i64 n) := by exact rfl) (hy : evE E y = some (.int .i64 a) := by exact rfl) (hz : evE E z = some (.int .i64 b) := by exact rfl)
    (hk : GO Try.prog A X ((d, .bool (decide (a ≤ n ∧ n ≤ b))) :: E) S r K) : GO Try.prog A X E S (⟨some d, none, .call fn_spec_inRange [x, y, z]⟩ :: r) K :=
  go_callp (by simp only [evsE, hx, hy, hz]) code_spec_inRange.callable (fun H hH => inRange_ok) hk

theorem nth_mem {xs : List Int} {i : Nat} (h : i < xs.length) : nth xs i ∈ xs := by rw [nth_of h]; exact List.getElem_mem h

def Bd (b : Int) (xs : List Int) : Prop := ∀ x ∈ xs, -b ≤ x ∧ x ≤ b

theorem Bd.nth {b : Int} {xs : List Int} (h : Bd b xs) (hb : 0 ≤ b) (i : Nat) : -b ≤ nth xs i ∧ nth xs i ≤ b := by
  by_cases hi : i < xs.length
  · exact h _ (nth_mem hi)
  · have : Rx.nth xs i = 0 := by simp [Rx.nth, Nat.le_of_not_lt hi]
    omega

theorem Bd.one {b x : Int} (h : -b ≤ x ∧ x ≤ b) : Bd b [x] := by
  intro y hy; simp only [List.mem_singleton] at hy; subst hy; exact h

noncomputable instance (b : Int) (xs : List Int) : Decidable (Bd b xs) := Classical.propDecidable _

/-- the bits of the numbers above 0 -/
def Bits (l : List Int) (p : Nat) : Prop := ∀ j, p.testBit j = decide (j < l.length ∧ 0 < nth l j)

theorem Bits.lt {l : List Int} {p : Nat} (h : Bits l p) : p < 2 ^ l.length := by
  apply Nat.lt_pow_two_of_testBit
  intro i hi
  rw [h i]; simp; omega

theorem nth_app_lt {l : List Int} {x : Int} {j : Nat} (h : j < l.length) : nth (l ++ [x]) j = nth l j := by
  simp [nth, List.getElem?_append_left h]

theorem nth_app_eq {l : List Int} {x : Int} : nth (l ++ [x]) l.length = x := by simp [nth]

theorem Bits.no {l : List Int} {p : Nat} (h : Bits l p) {x : Int} (hx : ¬ 0 < x) : Bits (l ++ [x]) p := by
  intro j
  rw [h j]
  rcases Nat.lt_trichotomy j l.length with hj | rfl | hj
  · rw [nth_app_lt hj]
    have : j < (l ++ [x]).length := by simp; omega
    simp [hj]; omega
  · rw [nth_app_eq]; simp [hx]
  · have h2 : ¬ j < l.length := by omega
    simp [h2]; omega

def Up (l : List Int) : Prop := l.Pairwise (· ≤ ·)

theorem Up.le {l : List Int} (h : Up l) {i j : Nat} (hij : i ≤ j) (hj : j < l.length) : nth l i ≤ nth l j := by
  rcases Nat.lt_or_ge i j with h1 | h1
  · rw [nth_of (by omega), nth_of hj]
    exact List.pairwise_iff_getElem.1 h i j (by omega) hj h1
  · have : i = j := by omega
    subst this; exact Int.le_refl _

structure F4 where
  a : Int
  b : Int
  c : Int
  d : Int

abbrev F4.v (g : F4) : AV := .agg [.int .i64 g.a, .int .i64 g.b, .int .i64 g.c, .int .i64 g.d]

abbrev F4.ok (g : F4) : Prop := (0 ≤ g.a ∧ g.a ≤ 5) ∧ (-1 ≤ g.b ∧ (g.b ≤ 5 ∨ g.b = 9)) ∧ (0 ≤ g.c ∧ g.c ≤ 5) ∧ (0 ≤ g.d ∧ g.d ≤ 8)

structure P2 where
  a : Int
  b : Int

abbrev P2.v (g : P2) : AV := .tuple [.int .i64 g.a, .int .i64 g.b]

abbrev P2.lev (g : P2) : Prop := (0 ≤ g.a ∧ g.a ≤ 102) ∧ 0 ≤ g.b ∧ g.b ≤ 101

structure N4 where
  n : Int
  k : Int
  u : Int
  v : Int

abbrev N4.ok (g : N4) : Prop := (0 ≤ g.n ∧ g.n ≤ 11) ∧ (-1 ≤ g.k ∧ g.k ≤ 11) ∧ (0 ≤ g.u ∧ g.u ≤ 14) ∧ (0 ≤ g.v ∧ g.v ≤ 13)

structure N3 where
  n : Int
  a : Int
  b : Int

abbrev N3.v (g : N3) : AV := .tuple [.int .i64 g.n, .int .i64 g.a, .int .i64 g.b]

abbrev N3.ok (g : N3) : Prop := (0 ≤ g.n ∧ g.n ≤ 11) ∧ (0 ≤ g.a ∧ g.a ≤ 102) ∧ 0 ≤ g.b ∧ g.b ≤ 101

structure N5 where
  n : Int
  k : Int
  v : Int
  a : Int
  b : Int

abbrev N5.ok (g : N5) : Prop := (0 ≤ g.n ∧ g.n ≤ 11) ∧ (-1 ≤ g.k ∧ g.k ≤ 12) ∧ (0 ≤ g.v ∧ g.v ≤ 12) ∧ (0 ≤ g.a ∧ g.a ≤ 102) ∧ 0 ≤ g.b ∧ g.b ≤ 101

def tabZ (n : Nat) (f : Nat → Int) : List Int := (List.range n).map f

theorem tabZ_len (n : Nat) (f : Nat → Int) : (tabZ n f).length = n := by simp [tabZ]

structure GK5 where
  u : AV
  xs : List Int
  lev : Int
  kd : List UInt8

abbrev GK5.v (g : GK5) : AV := .tuple [g.u, .int .i64 g.lev, .str g.kd]

def keyZ (xs : List Int) (i : Int) : Int := nth xs i.toNat

def bef (K : Int → Int) (a b : Int) : Prop := K a < K b ∨ (K a = K b ∧ a < b)

def idxL (n : Nat) : List Int := tabZ n fun i => (i : Int)

theorem idxL_len (n : Nat) : (idxL n).length = n := tabZ_len _ _

def BySize (xs : List Int) (n : Nat) (ys : List Int) : Prop := ys.Perm (idxL n) ∧ ys.Pairwise (bef (keyZ xs))

theorem BySize.len {xs : List Int} {n : Nat} {ys : List Int} (h : BySize xs n ys) : ys.length = n := by rw [h.1.length_eq, idxL_len]

inductive Way | all | down | up | share

def Way.val : Way → Int → Int → Int → Int
  | .all, x, n, _ => x * n
  | .down, x, n, p => x * (n - p)
  | .up, x, n, p => x * (n - p)
  | .share, x, n, p => (x * n + p) / (p + 1)

theorem nth_ex {l : List Int} {v : Int} (h : v ∈ l) : ∃ m, m < l.length ∧ nth l m = v := by
  obtain ⟨m, h1, h2⟩ := List.getElem_of_mem h
  exact ⟨m, h1, by rw [nth_of h1]; exact h2⟩

def FD (q : Rat) (D B : Int) : Prop := 0 < D ∧ ∃ k : Int, q * (D : Rat) = (k : Rat) ∧ -B ≤ k ∧ k ≤ B

theorem FD.int {n B : Int} (h : -B ≤ n ∧ n ≤ B) : FD (n : Rat) 1 B := ⟨by omega, n, by simp, h.1, h.2⟩

def PtsT (xs ys : List Int) (n : Nat) : Prop := ∀ i, i < n → i < ys.length ∧ (-12 ≤ nth xs i ∧ nth xs i ≤ 12) ∧ (-12 ≤ nth ys i ∧ nth ys i ≤ 12)

def Pts (xs ys : List Int) : Prop := PtsT xs ys xs.length ∧ xs.length = ys.length ∧ xs.length ≤ 7

def Wide (xs : List Int) : Prop := ∃ i, 1 ≤ i ∧ i < xs.length ∧ nth xs i ≠ nth xs 0

def Cloud (xs ys : List Int) : Prop := Pts xs ys ∧ Wide xs

noncomputable instance (xs ys : List Int) : Decidable (Pts xs ys) := Classical.propDecidable _

noncomputable instance (xs : List Int) : Decidable (Wide xs) := Classical.propDecidable _

noncomputable instance (xs ys : List Int) : Decidable (Cloud xs ys) := Classical.propDecidable _

def DifT (xs : List Int) (n : Nat) : Prop := ∀ i, i < n → ∀ k, k < i → nth xs i ≠ nth xs k

def Dif (xs : List Int) : Prop := DifT xs xs.length

noncomputable instance (xs : List Int) : Decidable (Dif xs) := Classical.propDecidable _

def CvOk (xs ys : List Int) : Prop := (Pts xs ys ∧ (1 ≤ (xs.length : Int) ∧ (xs.length : Int) ≤ 5)) ∧ Dif xs

noncomputable instance (xs ys : List Int) : Decidable (CvOk xs ys) := Classical.propDecidable _

def PtsM (xs ys : List Int) (m : Nat) : Prop := (xs.length = ys.length ∧ 1 ≤ xs.length ∧ xs.length ≤ m) ∧ PtsT xs ys xs.length

noncomputable instance (xs ys : List Int) (m : Nat) : Decidable (PtsM xs ys m) := Classical.propDecidable _

theorem Cloud.m {xs ys : List Int} (h : Cloud xs ys) : PtsM xs ys 7 := by
  obtain ⟨⟨h1, h2, h3⟩, i, h4, h5, _⟩ := h
  exact ⟨⟨h2, by omega, h3⟩, h1⟩

theorem nth_take {xs : List Int} {m i : Nat} (h : i < m) : nth (xs.take m) i = nth xs i := by
  unfold nth
  simp [List.getD, List.getElem?_take_of_lt h]

theorem Pts.take {xs ys : List Int} (h : Pts xs ys) (m : Nat) : Pts (xs.take m) (ys.take m) := by
  obtain ⟨h1, h2, h3⟩ := h
  refine ⟨fun i hi => ?_, by simp [h2], by simp; omega⟩
  rw [List.length_take] at hi
  have h4 := h1 i (by omega)
  rw [nth_take (by omega), nth_take (by omega), List.length_take]
  exact ⟨by omega, h4.2⟩

theorem CvOk.take {xs ys : List Int} (h : CvOk xs ys) {m : Nat} (h1 : 1 ≤ m) (hm : m ≤ xs.length) : CvOk (xs.take m) (ys.take m) := by
  have h5 := h.1.2
  have hl : (xs.take m).length = m := by rw [List.length_take]; omega
  refine ⟨⟨h.1.1.take m, by rw [hl]; omega⟩, fun i hi k hk => ?_⟩
  rw [hl] at hi
  rw [nth_take (by omega), nth_take (by omega)]
  exact h.2 i (by omega) k hk

def mnA (S W : Nat → Rat) (i e : Nat) : Rat := (S e - S i) / (W e - W i)

def AscW (W : Nat → Rat) (n : Nat) : Prop := ∀ i, i < n → W i < W (i + 1)

theorem AscW.lt {W : Nat → Rat} {n : Nat} (h : AscW W n) {i : Nat} : ∀ {j}, i < j → j ≤ n → W i < W j
  | 0, h1, _ => absurd h1 (Nat.not_lt_zero _)
  | j + 1, h1, h2 => by
    have := h j h2
    rcases Nat.lt_or_ge i j with h3 | h3
    · have := h.lt (j := j) h3 (by omega); grind
    · rw [show i = j by omega]; exact this

theorem AscW.le {W : Nat → Rat} {n : Nat} (h : AscW W n) {i j : Nat} (h1 : i ≤ j) (h2 : j ≤ n) : W i ≤ W j := by
  rcases Nat.lt_or_ge i j with h3 | h3
  · exact Rat.le_of_lt (h.lt h3 h2)
  · rw [show i = j by omega]; exact Rat.le_refl

def Bks (S W : Nat → Rat) : List Nat → Nat → Prop
  | [], e => e = 0
  | a :: r, e => a < e ∧ (∀ t, a ≤ t → t ≤ e → mnA S W a e * (W t - W a) ≤ S t - S a) ∧ Bks S W r a

theorem Bks.len {S W : Nat → Rat} : ∀ {r : List Nat} {e}, Bks S W r e → r.length ≤ e
  | [], _, h => by simp
  | a :: r, e, h => by
    have := Bks.len h.2.2
    have := h.1
    simp only [List.length_cons]; omega

def Loads (xs ws : List Int) : Prop := (∀ w ∈ ws, 1 ≤ w ∧ w ≤ 5) ∧ Bd 30 xs ∧ xs.length = ws.length ∧ 1 ≤ xs.length ∧ xs.length ≤ 8

noncomputable instance (xs ws : List Int) : Decidable (Loads xs ws) := Classical.propDecidable _

theorem Loads.w {xs ws : List Int} (h : Loads xs ws) {i : Nat} (hi : i < xs.length) : 1 ≤ nth ws i ∧ nth ws i ≤ 5 := by
  have h1 : i < ws.length := by have := h.2.2.1; omega
  rw [nth_of h1]; exact h.1 _ (List.getElem_mem h1)

theorem Loads.x {xs ws : List Int} (h : Loads xs ws) (i : Nat) : -30 ≤ nth xs i ∧ nth xs i ≤ 30 := h.2.1.nth (by omega) i

def Dv (q : Rat) (D : Int) : Prop := 0 < D ∧ ∃ k : Int, q * (D : Rat) = (k : Rat)

theorem Dv.int (n : Int) : Dv (n : Rat) 1 := ⟨by omega, n, by simp⟩

theorem specValidLoads_ok {H : Heap} {a b : AV} {xs ws : List Int} (ha : Ints H a xs) (hb : Ints H b ws) (hl : xs.length ≤ 1000000000) (hl' : ws.length ≤ 1000000000) :
    ACalls Try.prog fn_spec_validLoads [a, b] H fun r H' => r = .bool (decide (Loads xs ws)) ∧ H' = H := by
  refine ACalls.val ?_ rfl
  refine code_spec_validLoads.go [.roI a xs.length xs, .roI b ws.length ws] ⟨⟨rfl, ha⟩, ⟨rfl, hb⟩, trivial⟩ (by simp) ?_
  unfold mc_spec_validLoads
  have no : (Loads xs ws → False) → decide (Loads xs ws) = false := fun h => decide_eq_false h
  (repeat (first | refine gst (hk := ?_) | (show GO _ _ _ _ _ (⟨some _, none, .call _ _⟩ :: _) _; first | (show GO _ _ _ _ _ (⟨some _, none, .call fn_spec_inRange _⟩ :: _) _; refine go_inRange (hk := ?_); try intro u)) | (show GO _ _ _ _ _ (⟨some _, none, _⟩ :: _) _; first | refine go_op (hk := ?_) | (refine go_nw (hk := ?_); intro u; try simp only [llc, lln, lna, lza]) | (refine go_np (hk := ?_); intro id)) | (show GO _ _ _ _ _ (⟨none, none, _⟩ :: _) _; refine go_st (hk := ?_)) | (show GO _ _ _ _ _ (⟨_, some _, _⟩ :: _) _; first | refine go_in (hk := ?_) | refine go_out (hk := ?_) | refine go_void (hk := ?_)) | (show GK _ _ _ _ (blockK _ _ _); refine gk_past rfl ?_) | (show GC _ _ _ _ _ (.cond _ _ _) _; first | refine gc_yes (h1 := ?_) | refine gc_no (h1 := ?_))))
  refine gc_loop (γ := Nat) (fun i => [(0, a), (1, b), (5, .int .i64 (i : Int))]) (fun _ => [.roI a xs.length xs, .roI b ws.length ws]) (fun i => i ≤ ws.length ∧ ∀ j, j < i → 1 ≤ nth ws j ∧ nth ws j ≤ 5) (fun i => ws.length - i) 0 ⟨Nat.zero_le _, fun k hk => by omega⟩ (hb := ?_)
  rintro i ⟨hi, hp⟩ I ν m hk
  (repeat (first | refine gst (hk := ?_) | (show GO _ _ _ _ _ (⟨some _, none, .call _ _⟩ :: _) _; first | (show GO _ _ _ _ _ (⟨some _, none, .call fn_spec_inRange _⟩ :: _) _; refine go_inRange (hk := ?_); try intro u)) | (show GO _ _ _ _ _ (⟨some _, none, _⟩ :: _) _; first | refine go_op (hk := ?_) | (refine go_nw (hk := ?_); intro u; try simp only [llc, lln, lna, lza]) | (refine go_np (hk := ?_); intro id)) | (show GO _ _ _ _ _ (⟨none, none, _⟩ :: _) _; refine go_st (hk := ?_)) | (show GO _ _ _ _ _ (⟨_, some _, _⟩ :: _) _; first | refine go_in (hk := ?_) | refine go_out (hk := ?_) | refine go_void (hk := ?_)) | (show GK _ _ _ _ (blockK _ _ _); refine gk_past rfl ?_) | (show GC _ _ _ _ _ (.cond _ _ _) _; first | refine gc_yes (h1 := ?_) | refine gc_no (h1 := ?_))))
  refine gc_cond rfl (fun h => ?_) (fun h => ?_)
  · (repeat (first | refine gst (hk := ?_) | (show GO _ _ _ _ _ (⟨some _, none, .call _ _⟩ :: _) _; first | (show GO _ _ _ _ _ (⟨some _, none, .call fn_spec_inRange _⟩ :: _) _; refine go_inRange (hk := ?_); try intro u)) | (show GO _ _ _ _ _ (⟨some _, none, _⟩ :: _) _; first | refine go_op (hk := ?_) | (refine go_nw (hk := ?_); intro u; try simp only [llc, lln, lna, lza]) | (refine go_np (hk := ?_); intro id)) | (show GO _ _ _ _ _ (⟨none, none, _⟩ :: _) _; refine go_st (hk := ?_)) | (show GO _ _ _ _ _ (⟨_, some _, _⟩ :: _) _; first | refine go_in (hk := ?_) | refine go_out (hk := ?_) | refine go_void (hk := ?_)) | (show GK _ _ _ _ (blockK _ _ _); refine gk_past rfl ?_) | (show GC _ _ _ _ _ (.cond _ _ _) _; first | refine gc_yes (h1 := ?_) | refine gc_no (h1 := ?_))))
    refine gc_cond rfl (fun h2 => ?_) (fun h2 => ?_)
    · (repeat (first | refine gst (hk := ?_) | (show GO _ _ _ _ _ (⟨some _, none, .call _ _⟩ :: _) _; first | (show GO _ _ _ _ _ (⟨some _, none, .call fn_spec_inRange _⟩ :: _) _; refine go_inRange (hk := ?_); try intro u)) | (show GO _ _ _ _ _ (⟨some _, none, _⟩ :: _) _; first | refine go_op (hk := ?_) | (refine go_nw (hk := ?_); intro u; try simp only [llc, lln, lna, lza]) | (refine go_np (hk := ?_); intro id)) | (show GO _ _ _ _ _ (⟨none, none, _⟩ :: _) _; refine go_st (hk := ?_)) | (show GO _ _ _ _ _ (⟨_, some _, _⟩ :: _) _; first | refine go_in (hk := ?_) | refine go_out (hk := ?_) | refine go_void (hk := ?_)) | (show GK _ _ _ _ (blockK _ _ _); refine gk_past rfl ?_) | (show GC _ _ _ _ _ (.cond _ _ _) _; first | refine gc_yes (h1 := ?_) | refine gc_no (h1 := ?_))))
      exact gk_ret rfl fun H' hH => ⟨by rw [no fun hL => h2 (hL.1 _ (nth_mem (by omega)))]; rfl, hH.leE⟩
    · (repeat (first | refine gst (hk := ?_) | (show GO _ _ _ _ _ (⟨some _, none, .call _ _⟩ :: _) _; first | (show GO _ _ _ _ _ (⟨some _, none, .call fn_spec_inRange _⟩ :: _) _; refine go_inRange (hk := ?_); try intro u)) | (show GO _ _ _ _ _ (⟨some _, none, _⟩ :: _) _; first | refine go_op (hk := ?_) | (refine go_nw (hk := ?_); intro u; try simp only [llc, lln, lna, lza]) | (refine go_np (hk := ?_); intro id)) | (show GO _ _ _ _ _ (⟨none, none, _⟩ :: _) _; refine go_st (hk := ?_)) | (show GO _ _ _ _ _ (⟨_, some _, _⟩ :: _) _; first | refine go_in (hk := ?_) | refine go_out (hk := ?_) | refine go_void (hk := ?_)) | (show GK _ _ _ _ (blockK _ _ _); refine gk_past rfl ?_) | (show GC _ _ _ _ _ (.cond _ _ _) _; first | refine gc_yes (h1 := ?_) | refine gc_no (h1 := ?_))))
      refine gk_next (hk (i + 1) ⟨by omega, fun j hj => ?_⟩ (by omega))
      rcases Nat.lt_or_ge j i with h4 | h4
      · exact hp j h4
      · rw [show j = i by omega]; exact Decidable.not_not.1 h2
  · have : i = ws.length := by omega
    subst this
    (repeat (first | refine gst (hk := ?_) | (show GO _ _ _ _ _ (⟨some _, none, .call _ _⟩ :: _) _; first | (show GO _ _ _ _ _ (⟨some _, none, .call fn_spec_inRange _⟩ :: _) _; refine go_inRange (hk := ?_); try intro u)) | (show GO _ _ _ _ _ (⟨some _, none, _⟩ :: _) _; first | refine go_op (hk := ?_) | (refine go_nw (hk := ?_); intro u; try simp only [llc, lln, lna, lza]) | (refine go_np (hk := ?_); intro id)) | (show GO _ _ _ _ _ (⟨none, none, _⟩ :: _) _; refine go_st (hk := ?_)) | (show GO _ _ _ _ _ (⟨_, some _, _⟩ :: _) _; first | refine go_in (hk := ?_) | refine go_out (hk := ?_) | refine go_void (hk := ?_)) | (show GK _ _ _ _ (blockK _ _ _); refine gk_past rfl ?_) | (show GC _ _ _ _ _ (.cond _ _ _) _; first | refine gc_yes (h1 := ?_) | refine gc_no (h1 := ?_))))
    refine gc_loop (γ := Nat) (fun i => [(0, a), (1, b), (6, .int .i64 (i : Int))]) (fun _ => [.roI a xs.length xs, .roI b ws.length ws]) (fun i => i ≤ xs.length ∧ ∀ j, j < i → -30 ≤ nth xs j ∧ nth xs j ≤ 30) (fun i => xs.length - i) 0 ⟨Nat.zero_le _, fun k hk => by omega⟩ (hb := ?_)
    rintro i ⟨hi2, hp2⟩ I2 ν2 m2 hk2
    (repeat (first | refine gst (hk := ?_) | (show GO _ _ _ _ _ (⟨some _, none, .call _ _⟩ :: _) _; first | (show GO _ _ _ _ _ (⟨some _, none, .call fn_spec_inRange _⟩ :: _) _; refine go_inRange (hk := ?_); try intro u)) | (show GO _ _ _ _ _ (⟨some _, none, _⟩ :: _) _; first | refine go_op (hk := ?_) | (refine go_nw (hk := ?_); intro u; try simp only [llc, lln, lna, lza]) | (refine go_np (hk := ?_); intro id)) | (show GO _ _ _ _ _ (⟨none, none, _⟩ :: _) _; refine go_st (hk := ?_)) | (show GO _ _ _ _ _ (⟨_, some _, _⟩ :: _) _; first | refine go_in (hk := ?_) | refine go_out (hk := ?_) | refine go_void (hk := ?_)) | (show GK _ _ _ _ (blockK _ _ _); refine gk_past rfl ?_) | (show GC _ _ _ _ _ (.cond _ _ _) _; first | refine gc_yes (h1 := ?_) | refine gc_no (h1 := ?_))))
    refine gc_cond rfl (fun h2 => ?_) (fun h2 => ?_)
    · (repeat (first | refine gst (hk := ?_) | (show GO _ _ _ _ _ (⟨some _, none, .call _ _⟩ :: _) _; first | (show GO _ _ _ _ _ (⟨some _, none, .call fn_spec_inRange _⟩ :: _) _; refine go_inRange (hk := ?_); try intro u)) | (show GO _ _ _ _ _ (⟨some _, none, _⟩ :: _) _; first | refine go_op (hk := ?_) | (refine go_nw (hk := ?_); intro u; try simp only [llc, lln, lna, lza]) | (refine go_np (hk := ?_); intro id)) | (show GO _ _ _ _ _ (⟨none, none, _⟩ :: _) _; refine go_st (hk := ?_)) | (show GO _ _ _ _ _ (⟨_, some _, _⟩ :: _) _; first | refine go_in (hk := ?_) | refine go_out (hk := ?_) | refine go_void (hk := ?_)) | (show GK _ _ _ _ (blockK _ _ _); refine gk_past rfl ?_) | (show GC _ _ _ _ _ (.cond _ _ _) _; first | refine gc_yes (h1 := ?_) | refine gc_no (h1 := ?_))))
      refine gc_cond rfl (fun h3 => ?_) (fun h3 => ?_)
      · (repeat (first | refine gst (hk := ?_) | (show GO _ _ _ _ _ (⟨some _, none, .call _ _⟩ :: _) _; first | (show GO _ _ _ _ _ (⟨some _, none, .call fn_spec_inRange _⟩ :: _) _; refine go_inRange (hk := ?_); try intro u)) | (show GO _ _ _ _ _ (⟨some _, none, _⟩ :: _) _; first | refine go_op (hk := ?_) | (refine go_nw (hk := ?_); intro u; try simp only [llc, lln, lna, lza]) | (refine go_np (hk := ?_); intro id)) | (show GO _ _ _ _ _ (⟨none, none, _⟩ :: _) _; refine go_st (hk := ?_)) | (show GO _ _ _ _ _ (⟨_, some _, _⟩ :: _) _; first | refine go_in (hk := ?_) | refine go_out (hk := ?_) | refine go_void (hk := ?_)) | (show GK _ _ _ _ (blockK _ _ _); refine gk_past rfl ?_) | (show GC _ _ _ _ _ (.cond _ _ _) _; first | refine gc_yes (h1 := ?_) | refine gc_no (h1 := ?_))))
        exact gk_ret rfl fun H' hH => ⟨by rw [no fun hL => h3 (hL.2.1 _ (nth_mem (by omega)))]; rfl, hH.leE⟩
      · (repeat (first | refine gst (hk := ?_) | (show GO _ _ _ _ _ (⟨some _, none, .call _ _⟩ :: _) _; first | (show GO _ _ _ _ _ (⟨some _, none, .call fn_spec_inRange _⟩ :: _) _; refine go_inRange (hk := ?_); try intro u)) | (show GO _ _ _ _ _ (⟨some _, none, _⟩ :: _) _; first | refine go_op (hk := ?_) | (refine go_nw (hk := ?_); intro u; try simp only [llc, lln, lna, lza]) | (refine go_np (hk := ?_); intro id)) | (show GO _ _ _ _ _ (⟨none, none, _⟩ :: _) _; refine go_st (hk := ?_)) | (show GO _ _ _ _ _ (⟨_, some _, _⟩ :: _) _; first | refine go_in (hk := ?_) | refine go_out (hk := ?_) | refine go_void (hk := ?_)) | (show GK _ _ _ _ (blockK _ _ _); refine gk_past rfl ?_) | (show GC _ _ _ _ _ (.cond _ _ _) _; first | refine gc_yes (h1 := ?_) | refine gc_no (h1 := ?_))))
        refine gk_next (hk2 (i + 1) ⟨by omega, fun j hj => ?_⟩ (by omega))
        rcases Nat.lt_or_ge j i with h4 | h4
        · exact hp2 j h4
        · rw [show j = i by omega]; exact Decidable.not_not.1 h3
    · have : i = xs.length := by omega
      subst this
      have h5 : ∀ w ∈ ws, 1 ≤ w ∧ w ≤ 5 := fun w hw => by
        obtain ⟨m, hm, rfl⟩ := nth_ex hw
        exact hp m hm
      have h6 : Bd 30 xs := fun x hx => by
        obtain ⟨m, hm, rfl⟩ := nth_ex hx
        exact hp2 m hm
      (repeat (first | refine gst (hk := ?_) | (show GO _ _ _ _ _ (⟨some _, none, .call _ _⟩ :: _) _; first | (show GO _ _ _ _ _ (⟨some _, none, .call fn_spec_inRange _⟩ :: _) _; refine go_inRange (hk := ?_); try intro u)) | (show GO _ _ _ _ _ (⟨some _, none, _⟩ :: _) _; first | refine go_op (hk := ?_) | (refine go_nw (hk := ?_); intro u; try simp only [llc, lln, lna, lza]) | (refine go_np (hk := ?_); intro id)) | (show GO _ _ _ _ _ (⟨none, none, _⟩ :: _) _; refine go_st (hk := ?_)) | (show GO _ _ _ _ _ (⟨_, some _, _⟩ :: _) _; first | refine go_in (hk := ?_) | refine go_out (hk := ?_) | refine go_void (hk := ?_)) | (show GK _ _ _ _ (blockK _ _ _); refine gk_past rfl ?_) | (show GC _ _ _ _ _ (.cond _ _ _) _; first | refine gc_yes (h1 := ?_) | refine gc_no (h1 := ?_))))
      refine go_split 36 rfl (fun h3 => ?_) (fun h3 => ?_)
      · (repeat (first | refine gst (hk := ?_) | (show GO _ _ _ _ _ (⟨some _, none, .call _ _⟩ :: _) _; first | (show GO _ _ _ _ _ (⟨some _, none, .call fn_spec_inRange _⟩ :: _) _; refine go_inRange (hk := ?_); try intro u)) | (show GO _ _ _ _ _ (⟨some _, none, _⟩ :: _) _; first | refine go_op (hk := ?_) | (refine go_nw (hk := ?_); intro u; try simp only [llc, lln, lna, lza]) | (refine go_np (hk := ?_); intro id)) | (show GO _ _ _ _ _ (⟨none, none, _⟩ :: _) _; refine go_st (hk := ?_)) | (show GO _ _ _ _ _ (⟨_, some _, _⟩ :: _) _; first | refine go_in (hk := ?_) | refine go_out (hk := ?_) | refine go_void (hk := ?_)) | (show GK _ _ _ _ (blockK _ _ _); refine gk_past rfl ?_) | (show GC _ _ _ _ _ (.cond _ _ _) _; first | refine gc_yes (h1 := ?_) | refine gc_no (h1 := ?_))))
        exact gk_ret rfl fun H' hH => ⟨by
          simp only [tupleOf]; congr 1
          exact decide_eq_decide.2 ⟨fun h7 => ⟨h5, h6, by omega, by omega, by omega⟩, fun h7 => ⟨by have := h7.2.2.2; omega, by have := h7.2.2.2; omega⟩⟩, hH.leE⟩
      · (repeat (first | refine gst (hk := ?_) | (show GO _ _ _ _ _ (⟨some _, none, .call _ _⟩ :: _) _; first | (show GO _ _ _ _ _ (⟨some _, none, .call fn_spec_inRange _⟩ :: _) _; refine go_inRange (hk := ?_); try intro u)) | (show GO _ _ _ _ _ (⟨some _, none, _⟩ :: _) _; first | refine go_op (hk := ?_) | (refine go_nw (hk := ?_); intro u; try simp only [llc, lln, lna, lza]) | (refine go_np (hk := ?_); intro id)) | (show GO _ _ _ _ _ (⟨none, none, _⟩ :: _) _; refine go_st (hk := ?_)) | (show GO _ _ _ _ _ (⟨_, some _, _⟩ :: _) _; first | refine go_in (hk := ?_) | refine go_out (hk := ?_) | refine go_void (hk := ?_)) | (show GK _ _ _ _ (blockK _ _ _); refine gk_past rfl ?_) | (show GC _ _ _ _ _ (.cond _ _ _) _; first | refine gc_yes (h1 := ?_) | refine gc_no (h1 := ?_))))
        exact gk_ret rfl fun H' hH => ⟨by
          simp only [tupleOf]; congr 1
          exact (no fun h7 => h3 (by have := h7.2.2.1; omega)).symm, hH.leE⟩

theorem Loads.take {xs ws : List Int} (h : Loads xs ws) {k : Nat} (h1 : 1 ≤ k) (h2 : k ≤ xs.length) : Loads (xs.take k) (ws.take k) := by
  obtain ⟨g1, g2, g3, g4, g5⟩ := h
  exact ⟨fun w hw => g1 w (List.mem_of_mem_take hw), fun x hx => g2 x (List.mem_of_mem_take hx), by rw [List.length_take, List.length_take]; omega, by rw [List.length_take]; omega, by rw [List.length_take]; omega⟩

def Steps (xs : List Int) : Prop := Bd 30 xs ∧ 1 ≤ xs.length ∧ xs.length ≤ 8

noncomputable instance (xs : List Int) : Decidable (Steps xs) := Classical.propDecidable _

theorem Steps.x {xs : List Int} (h : Steps xs) (j : Nat) : -30 ≤ nth xs j ∧ nth xs j ≤ 30 := h.1.nth (by omega) j

theorem validHeights_ok {H : Heap} {a : AV} {xs : List Int} (ha : Ints H a xs) (hl : xs.length ≤ 1000000000) :
    ACalls Try.prog fn_impl_validHeights [a] H fun r H' => r = .bool (decide (Steps xs)) ∧ H' = H := by
  refine ACalls.val ?_ rfl
  refine code_impl_validHeights.go [.roI a xs.length xs] ⟨⟨rfl, ha⟩, trivial⟩ (by simp) ?_
  unfold mc_impl_validHeights
  have no : (Steps xs → False) → decide (Steps xs) = false := fun h => decide_eq_false h
  (repeat (first | refine gst (hk := ?_) | (show GO _ _ _ _ _ (⟨some _, none, _⟩ :: _) _; first | refine go_op (hk := ?_) | (refine go_nw (hk := ?_); intro u; try simp only [llc, lln, lna, lza]) | (refine go_np (hk := ?_); intro id)) | (show GO _ _ _ _ _ (⟨none, none, _⟩ :: _) _; refine go_st (hk := ?_)) | (show GO _ _ _ _ _ (⟨_, some _, _⟩ :: _) _; first | refine go_in (hk := ?_) | refine go_out (hk := ?_) | refine go_void (hk := ?_)) | (show GK _ _ _ _ (blockK _ _ _); refine gk_past rfl ?_) | (show GC _ _ _ _ _ (.cond _ _ _) _; first | refine gc_yes (h1 := ?_) | refine gc_no (h1 := ?_))))
  refine go_split 8 rfl (fun h1 => ?_) (fun h1 => ?_)
  · (repeat (first | refine gst (hk := ?_) | (show GO _ _ _ _ _ (⟨some _, none, _⟩ :: _) _; first | refine go_op (hk := ?_) | (refine go_nw (hk := ?_); intro u; try simp only [llc, lln, lna, lza]) | (refine go_np (hk := ?_); intro id)) | (show GO _ _ _ _ _ (⟨none, none, _⟩ :: _) _; refine go_st (hk := ?_)) | (show GO _ _ _ _ _ (⟨_, some _, _⟩ :: _) _; first | refine go_in (hk := ?_) | refine go_out (hk := ?_) | refine go_void (hk := ?_)) | (show GK _ _ _ _ (blockK _ _ _); refine gk_past rfl ?_) | (show GC _ _ _ _ _ (.cond _ _ _) _; first | refine gc_yes (h1 := ?_) | refine gc_no (h1 := ?_))))
    exact gk_ret rfl fun H' hH => ⟨by rw [no fun h => by have := h.2.1; omega]; rfl, hH.leE⟩
  (repeat (first | refine gst (hk := ?_) | (show GO _ _ _ _ _ (⟨some _, none, _⟩ :: _) _; first | refine go_op (hk := ?_) | (refine go_nw (hk := ?_); intro u; try simp only [llc, lln, lna, lza]) | (refine go_np (hk := ?_); intro id)) | (show GO _ _ _ _ _ (⟨none, none, _⟩ :: _) _; refine go_st (hk := ?_)) | (show GO _ _ _ _ _ (⟨_, some _, _⟩ :: _) _; first | refine go_in (hk := ?_) | refine go_out (hk := ?_) | refine go_void (hk := ?_)) | (show GK _ _ _ _ (blockK _ _ _); refine gk_past rfl ?_) | (show GC _ _ _ _ _ (.cond _ _ _) _; first | refine gc_yes (h1 := ?_) | refine gc_no (h1 := ?_))))
  refine gc_cond rfl (fun h2 => ?_) (fun h2 => ?_)
  · (repeat (first | refine gst (hk := ?_) | (show GO _ _ _ _ _ (⟨some _, none, _⟩ :: _) _; first | refine go_op (hk := ?_) | (refine go_nw (hk := ?_); intro u; try simp only [llc, lln, lna, lza]) | (refine go_np (hk := ?_); intro id)) | (show GO _ _ _ _ _ (⟨none, none, _⟩ :: _) _; refine go_st (hk := ?_)) | (show GO _ _ _ _ _ (⟨_, some _, _⟩ :: _) _; first | refine go_in (hk := ?_) | refine go_out (hk := ?_) | refine go_void (hk := ?_)) | (show GK _ _ _ _ (blockK _ _ _); refine gk_past rfl ?_) | (show GC _ _ _ _ _ (.cond _ _ _) _; first | refine gc_yes (h1 := ?_) | refine gc_no (h1 := ?_))))
    exact gk_ret rfl fun H' hH => ⟨by rw [no fun h => by have := h.2.2; omega]; rfl, hH.leE⟩
  (repeat (first | refine gst (hk := ?_) | (show GO _ _ _ _ _ (⟨some _, none, _⟩ :: _) _; first | refine go_op (hk := ?_) | (refine go_nw (hk := ?_); intro u; try simp only [llc, lln, lna, lza]) | (refine go_np (hk := ?_); intro id)) | (show GO _ _ _ _ _ (⟨none, none, _⟩ :: _) _; refine go_st (hk := ?_)) | (show GO _ _ _ _ _ (⟨_, some _, _⟩ :: _) _; first | refine go_in (hk := ?_) | refine go_out (hk := ?_) | refine go_void (hk := ?_)) | (show GK _ _ _ _ (blockK _ _ _); refine gk_past rfl ?_) | (show GC _ _ _ _ _ (.cond _ _ _) _; first | refine gc_yes (h1 := ?_) | refine gc_no (h1 := ?_))))
  refine gc_loop (γ := Nat) (fun i => [(13, a), (14, .int .i64 (xs.length : Int)), (15, .int .i64 (i : Int))]) (fun _ => [.roI a xs.length xs]) (fun i => i ≤ xs.length ∧ ∀ j, j < i → -30 ≤ nth xs j ∧ nth xs j ≤ 30) (fun i => xs.length - i) 0 ⟨Nat.zero_le _, fun k hk => by omega⟩ (hb := ?_)
  rintro i ⟨hi, hp⟩ I ν m hk
  (repeat (first | refine gst (hk := ?_) | (show GO _ _ _ _ _ (⟨some _, none, _⟩ :: _) _; first | refine go_op (hk := ?_) | (refine go_nw (hk := ?_); intro u; try simp only [llc, lln, lna, lza]) | (refine go_np (hk := ?_); intro id)) | (show GO _ _ _ _ _ (⟨none, none, _⟩ :: _) _; refine go_st (hk := ?_)) | (show GO _ _ _ _ _ (⟨_, some _, _⟩ :: _) _; first | refine go_in (hk := ?_) | refine go_out (hk := ?_) | refine go_void (hk := ?_)) | (show GK _ _ _ _ (blockK _ _ _); refine gk_past rfl ?_) | (show GC _ _ _ _ _ (.cond _ _ _) _; first | refine gc_yes (h1 := ?_) | refine gc_no (h1 := ?_))))
  refine gc_cond rfl (fun h => ?_) (fun h => ?_)
  · (repeat (first | refine gst (hk := ?_) | (show GO _ _ _ _ _ (⟨some _, none, _⟩ :: _) _; first | refine go_op (hk := ?_) | (refine go_nw (hk := ?_); intro u; try simp only [llc, lln, lna, lza]) | (refine go_np (hk := ?_); intro id)) | (show GO _ _ _ _ _ (⟨none, none, _⟩ :: _) _; refine go_st (hk := ?_)) | (show GO _ _ _ _ _ (⟨_, some _, _⟩ :: _) _; first | refine go_in (hk := ?_) | refine go_out (hk := ?_) | refine go_void (hk := ?_)) | (show GK _ _ _ _ (blockK _ _ _); refine gk_past rfl ?_) | (show GC _ _ _ _ _ (.cond _ _ _) _; first | refine gc_yes (h1 := ?_) | refine gc_no (h1 := ?_))))
    refine go_split 21 rfl (fun h3 => ?_) (fun h3 => ?_)
    · (repeat (first | refine gst (hk := ?_) | (show GO _ _ _ _ _ (⟨some _, none, _⟩ :: _) _; first | refine go_op (hk := ?_) | (refine go_nw (hk := ?_); intro u; try simp only [llc, lln, lna, lza]) | (refine go_np (hk := ?_); intro id)) | (show GO _ _ _ _ _ (⟨none, none, _⟩ :: _) _; refine go_st (hk := ?_)) | (show GO _ _ _ _ _ (⟨_, some _, _⟩ :: _) _; first | refine go_in (hk := ?_) | refine go_out (hk := ?_) | refine go_void (hk := ?_)) | (show GK _ _ _ _ (blockK _ _ _); refine gk_past rfl ?_) | (show GC _ _ _ _ _ (.cond _ _ _) _; first | refine gc_yes (h1 := ?_) | refine gc_no (h1 := ?_))))
      exact gk_ret rfl fun H' hH => ⟨by rw [no fun hL => by have := hL.x i; omega]; rfl, hH.leE⟩
    (repeat (first | refine gst (hk := ?_) | (show GO _ _ _ _ _ (⟨some _, none, _⟩ :: _) _; first | refine go_op (hk := ?_) | (refine go_nw (hk := ?_); intro u; try simp only [llc, lln, lna, lza]) | (refine go_np (hk := ?_); intro id)) | (show GO _ _ _ _ _ (⟨none, none, _⟩ :: _) _; refine go_st (hk := ?_)) | (show GO _ _ _ _ _ (⟨_, some _, _⟩ :: _) _; first | refine go_in (hk := ?_) | refine go_out (hk := ?_) | refine go_void (hk := ?_)) | (show GK _ _ _ _ (blockK _ _ _); refine gk_past rfl ?_) | (show GC _ _ _ _ _ (.cond _ _ _) _; first | refine gc_yes (h1 := ?_) | refine gc_no (h1 := ?_))))
    refine gc_cond rfl (fun h4 => ?_) (fun h4 => ?_)
    · (repeat (first | refine gst (hk := ?_) | (show GO _ _ _ _ _ (⟨some _, none, _⟩ :: _) _; first | refine go_op (hk := ?_) | (refine go_nw (hk := ?_); intro u; try simp only [llc, lln, lna, lza]) | (refine go_np (hk := ?_); intro id)) | (show GO _ _ _ _ _ (⟨none, none, _⟩ :: _) _; refine go_st (hk := ?_)) | (show GO _ _ _ _ _ (⟨_, some _, _⟩ :: _) _; first | refine go_in (hk := ?_) | refine go_out (hk := ?_) | refine go_void (hk := ?_)) | (show GK _ _ _ _ (blockK _ _ _); refine gk_past rfl ?_) | (show GC _ _ _ _ _ (.cond _ _ _) _; first | refine gc_yes (h1 := ?_) | refine gc_no (h1 := ?_))))
      exact gk_ret rfl fun H' hH => ⟨by rw [no fun hL => by have := hL.x i; omega]; rfl, hH.leE⟩
    · (repeat (first | refine gst (hk := ?_) | (show GO _ _ _ _ _ (⟨some _, none, _⟩ :: _) _; first | refine go_op (hk := ?_) | (refine go_nw (hk := ?_); intro u; try simp only [llc, lln, lna, lza]) | (refine go_np (hk := ?_); intro id)) | (show GO _ _ _ _ _ (⟨none, none, _⟩ :: _) _; refine go_st (hk := ?_)) | (show GO _ _ _ _ _ (⟨_, some _, _⟩ :: _) _; first | refine go_in (hk := ?_) | refine go_out (hk := ?_) | refine go_void (hk := ?_)) | (show GK _ _ _ _ (blockK _ _ _); refine gk_past rfl ?_) | (show GC _ _ _ _ _ (.cond _ _ _) _; first | refine gc_yes (h1 := ?_) | refine gc_no (h1 := ?_))))
      refine gk_next (hk (i + 1) ⟨by omega, fun j hj => ?_⟩ (by omega))
      rcases Nat.lt_or_ge j i with h5 | h5
      · exact hp j h5
      · rw [show j = i by omega]; omega
  · obtain rfl : i = xs.length := by omega
    have h6 : Bd 30 xs := fun x hx => by
      obtain ⟨m, hm, rfl⟩ := nth_ex hx
      exact hp m hm
    (repeat (first | refine gst (hk := ?_) | (show GO _ _ _ _ _ (⟨some _, none, _⟩ :: _) _; first | refine go_op (hk := ?_) | (refine go_nw (hk := ?_); intro u; try simp only [llc, lln, lna, lza]) | (refine go_np (hk := ?_); intro id)) | (show GO _ _ _ _ _ (⟨none, none, _⟩ :: _) _; refine go_st (hk := ?_)) | (show GO _ _ _ _ _ (⟨_, some _, _⟩ :: _) _; first | refine go_in (hk := ?_) | refine go_out (hk := ?_) | refine go_void (hk := ?_)) | (show GK _ _ _ _ (blockK _ _ _); refine gk_past rfl ?_) | (show GC _ _ _ _ _ (.cond _ _ _) _; first | refine gc_yes (h1 := ?_) | refine gc_no (h1 := ?_))))
    exact gk_ret rfl fun H' hH => ⟨by
      have : Steps xs := ⟨h6, by omega, by omega⟩
      simp [tupleOf, this], hH.leE⟩

theorem implValidLoads_ok {H : Heap} {a b : AV} {xs ws : List Int} (ha : Ints H a xs) (hb : Ints H b ws) (hl : xs.length ≤ 1000000000) (hl' : ws.length ≤ 1000000000) :
    ACalls Try.prog fn_impl_ValidLoads [a, b] H fun r H' => r = .bool (decide (Loads xs ws)) ∧ H' = H := by
  refine ACalls.val ?_ rfl
  refine code_impl_ValidLoads.go [.roI a xs.length xs, .roI b ws.length ws] ⟨⟨rfl, ha⟩, ⟨rfl, hb⟩, trivial⟩ (by simp) ?_
  unfold mc_impl_ValidLoads
  have no : ∀ {p : Prop}, (Loads xs ws → p) → ¬ p → decide (Loads xs ws) = false := fun h1 h2 => decide_eq_false fun h3 => h2 (h1 h3)
  (repeat (first | refine gst (hk := ?_) | (show GO _ _ _ _ _ (⟨some _, none, _⟩ :: _) _; first | refine go_op (hk := ?_) | (refine go_nw (hk := ?_); intro u; try simp only [llc, lln, lna, lza]) | (refine go_np (hk := ?_); intro id)) | (show GO _ _ _ _ _ (⟨none, none, _⟩ :: _) _; refine go_st (hk := ?_)) | (show GO _ _ _ _ _ (⟨_, some _, _⟩ :: _) _; first | refine go_in (hk := ?_) | refine go_out (hk := ?_) | refine go_void (hk := ?_)) | (show GK _ _ _ _ (blockK _ _ _); refine gk_past rfl ?_) | (show GC _ _ _ _ _ (.cond _ _ _) _; first | refine gc_yes (h1 := ?_) | refine gc_no (h1 := ?_))))
  refine go_callp rfl code_impl_validHeights.callable (fun H hH => validHeights_ok (hH.ints (by exact Has.auto)) hl) ?_
  (repeat (first | refine gst (hk := ?_) | (show GO _ _ _ _ _ (⟨some _, none, _⟩ :: _) _; first | refine go_op (hk := ?_) | (refine go_nw (hk := ?_); intro u; try simp only [llc, lln, lna, lza]) | (refine go_np (hk := ?_); intro id)) | (show GO _ _ _ _ _ (⟨none, none, _⟩ :: _) _; refine go_st (hk := ?_)) | (show GO _ _ _ _ _ (⟨_, some _, _⟩ :: _) _; first | refine go_in (hk := ?_) | refine go_out (hk := ?_) | refine go_void (hk := ?_)) | (show GK _ _ _ _ (blockK _ _ _); refine gk_past rfl ?_) | (show GC _ _ _ _ _ (.cond _ _ _) _; first | refine gc_yes (h1 := ?_) | refine gc_no (h1 := ?_))))
  refine go_split 10 rfl (fun h1 => ?_) (fun h1 => ?_)
  · (repeat (first | refine gst (hk := ?_) | (show GO _ _ _ _ _ (⟨some _, none, _⟩ :: _) _; first | refine go_op (hk := ?_) | (refine go_nw (hk := ?_); intro u; try simp only [llc, lln, lna, lza]) | (refine go_np (hk := ?_); intro id)) | (show GO _ _ _ _ _ (⟨none, none, _⟩ :: _) _; refine go_st (hk := ?_)) | (show GO _ _ _ _ _ (⟨_, some _, _⟩ :: _) _; first | refine go_in (hk := ?_) | refine go_out (hk := ?_) | refine go_void (hk := ?_)) | (show GK _ _ _ _ (blockK _ _ _); refine gk_past rfl ?_) | (show GC _ _ _ _ _ (.cond _ _ _) _; first | refine gc_yes (h1 := ?_) | refine gc_no (h1 := ?_))))
    exact gk_ret rfl fun H' hH => ⟨by rw [no (p := Steps xs) (fun h => ⟨h.2.1, h.2.2.2.1, h.2.2.2.2⟩) h1]; rfl, hH.leE⟩
  have hS := Decidable.not_not.1 h1
  (repeat (first | refine gst (hk := ?_) | (show GO _ _ _ _ _ (⟨some _, none, _⟩ :: _) _; first | refine go_op (hk := ?_) | (refine go_nw (hk := ?_); intro u; try simp only [llc, lln, lna, lza]) | (refine go_np (hk := ?_); intro id)) | (show GO _ _ _ _ _ (⟨none, none, _⟩ :: _) _; refine go_st (hk := ?_)) | (show GO _ _ _ _ _ (⟨_, some _, _⟩ :: _) _; first | refine go_in (hk := ?_) | refine go_out (hk := ?_) | refine go_void (hk := ?_)) | (show GK _ _ _ _ (blockK _ _ _); refine gk_past rfl ?_) | (show GC _ _ _ _ _ (.cond _ _ _) _; first | refine gc_yes (h1 := ?_) | refine gc_no (h1 := ?_))))
  refine gc_cond rfl (fun h3 => ?_) (fun h3 => ?_)
  · (repeat (first | refine gst (hk := ?_) | (show GO _ _ _ _ _ (⟨some _, none, _⟩ :: _) _; first | refine go_op (hk := ?_) | (refine go_nw (hk := ?_); intro u; try simp only [llc, lln, lna, lza]) | (refine go_np (hk := ?_); intro id)) | (show GO _ _ _ _ _ (⟨none, none, _⟩ :: _) _; refine go_st (hk := ?_)) | (show GO _ _ _ _ _ (⟨_, some _, _⟩ :: _) _; first | refine go_in (hk := ?_) | refine go_out (hk := ?_) | refine go_void (hk := ?_)) | (show GK _ _ _ _ (blockK _ _ _); refine gk_past rfl ?_) | (show GC _ _ _ _ _ (.cond _ _ _) _; first | refine gc_yes (h1 := ?_) | refine gc_no (h1 := ?_))))
    exact gk_ret rfl fun H' hH => ⟨by rw [no (fun h => h.2.2.1) (by omega)]; rfl, hH.leE⟩
  (repeat (first | refine gst (hk := ?_) | (show GO _ _ _ _ _ (⟨some _, none, _⟩ :: _) _; first | refine go_op (hk := ?_) | (refine go_nw (hk := ?_); intro u; try simp only [llc, lln, lna, lza]) | (refine go_np (hk := ?_); intro id)) | (show GO _ _ _ _ _ (⟨none, none, _⟩ :: _) _; refine go_st (hk := ?_)) | (show GO _ _ _ _ _ (⟨_, some _, _⟩ :: _) _; first | refine go_in (hk := ?_) | refine go_out (hk := ?_) | refine go_void (hk := ?_)) | (show GK _ _ _ _ (blockK _ _ _); refine gk_past rfl ?_) | (show GC _ _ _ _ _ (.cond _ _ _) _; first | refine gc_yes (h1 := ?_) | refine gc_no (h1 := ?_))))
  refine gc_loop (γ := Nat) (fun i => [(17, b), (18, .int .i64 (ws.length : Int)), (19, .int .i64 (i : Int))]) (fun _ => [.roI b ws.length ws]) (fun i => i ≤ ws.length ∧ ∀ j, j < i → 1 ≤ nth ws j ∧ nth ws j ≤ 5) (fun i => ws.length - i) 0 ⟨Nat.zero_le _, fun k hk => by omega⟩ (hb := ?_)
  rintro i ⟨hi, hp⟩ I ν μ hk
  (repeat (first | refine gst (hk := ?_) | (show GO _ _ _ _ _ (⟨some _, none, _⟩ :: _) _; first | refine go_op (hk := ?_) | (refine go_nw (hk := ?_); intro u; try simp only [llc, lln, lna, lza]) | (refine go_np (hk := ?_); intro id)) | (show GO _ _ _ _ _ (⟨none, none, _⟩ :: _) _; refine go_st (hk := ?_)) | (show GO _ _ _ _ _ (⟨_, some _, _⟩ :: _) _; first | refine go_in (hk := ?_) | refine go_out (hk := ?_) | refine go_void (hk := ?_)) | (show GK _ _ _ _ (blockK _ _ _); refine gk_past rfl ?_) | (show GC _ _ _ _ _ (.cond _ _ _) _; first | refine gc_yes (h1 := ?_) | refine gc_no (h1 := ?_))))
  refine gc_cond rfl (fun h => ?_) (fun h => ?_)
  · (repeat (first | refine gst (hk := ?_) | (show GO _ _ _ _ _ (⟨some _, none, _⟩ :: _) _; first | refine go_op (hk := ?_) | (refine go_nw (hk := ?_); intro u; try simp only [llc, lln, lna, lza]) | (refine go_np (hk := ?_); intro id)) | (show GO _ _ _ _ _ (⟨none, none, _⟩ :: _) _; refine go_st (hk := ?_)) | (show GO _ _ _ _ _ (⟨_, some _, _⟩ :: _) _; first | refine go_in (hk := ?_) | refine go_out (hk := ?_) | refine go_void (hk := ?_)) | (show GK _ _ _ _ (blockK _ _ _); refine gk_past rfl ?_) | (show GC _ _ _ _ _ (.cond _ _ _) _; first | refine gc_yes (h1 := ?_) | refine gc_no (h1 := ?_))))
    refine go_split 25 rfl (fun h4 => ?_) (fun h4 => ?_)
    · (repeat (first | refine gst (hk := ?_) | (show GO _ _ _ _ _ (⟨some _, none, _⟩ :: _) _; first | refine go_op (hk := ?_) | (refine go_nw (hk := ?_); intro u; try simp only [llc, lln, lna, lza]) | (refine go_np (hk := ?_); intro id)) | (show GO _ _ _ _ _ (⟨none, none, _⟩ :: _) _; refine go_st (hk := ?_)) | (show GO _ _ _ _ _ (⟨_, some _, _⟩ :: _) _; first | refine go_in (hk := ?_) | refine go_out (hk := ?_) | refine go_void (hk := ?_)) | (show GK _ _ _ _ (blockK _ _ _); refine gk_past rfl ?_) | (show GC _ _ _ _ _ (.cond _ _ _) _; first | refine gc_yes (h1 := ?_) | refine gc_no (h1 := ?_))))
      exact gk_ret rfl fun H' hH => ⟨by rw [no (fun h => (h.w (i := i) (by omega)).1) (by omega)]; rfl, hH.leE⟩
    (repeat (first | refine gst (hk := ?_) | (show GO _ _ _ _ _ (⟨some _, none, _⟩ :: _) _; first | refine go_op (hk := ?_) | (refine go_nw (hk := ?_); intro u; try simp only [llc, lln, lna, lza]) | (refine go_np (hk := ?_); intro id)) | (show GO _ _ _ _ _ (⟨none, none, _⟩ :: _) _; refine go_st (hk := ?_)) | (show GO _ _ _ _ _ (⟨_, some _, _⟩ :: _) _; first | refine go_in (hk := ?_) | refine go_out (hk := ?_) | refine go_void (hk := ?_)) | (show GK _ _ _ _ (blockK _ _ _); refine gk_past rfl ?_) | (show GC _ _ _ _ _ (.cond _ _ _) _; first | refine gc_yes (h1 := ?_) | refine gc_no (h1 := ?_))))
    refine gc_cond rfl (fun h7 => ?_) (fun h7 => ?_)
    · (repeat (first | refine gst (hk := ?_) | (show GO _ _ _ _ _ (⟨some _, none, _⟩ :: _) _; first | refine go_op (hk := ?_) | (refine go_nw (hk := ?_); intro u; try simp only [llc, lln, lna, lza]) | (refine go_np (hk := ?_); intro id)) | (show GO _ _ _ _ _ (⟨none, none, _⟩ :: _) _; refine go_st (hk := ?_)) | (show GO _ _ _ _ _ (⟨_, some _, _⟩ :: _) _; first | refine go_in (hk := ?_) | refine go_out (hk := ?_) | refine go_void (hk := ?_)) | (show GK _ _ _ _ (blockK _ _ _); refine gk_past rfl ?_) | (show GC _ _ _ _ _ (.cond _ _ _) _; first | refine gc_yes (h1 := ?_) | refine gc_no (h1 := ?_))))
      exact gk_ret rfl fun H' hH => ⟨by rw [no (fun h => (h.w (i := i) (by omega)).2) (by omega)]; rfl, hH.leE⟩
    (repeat (first | refine gst (hk := ?_) | (show GO _ _ _ _ _ (⟨some _, none, _⟩ :: _) _; first | refine go_op (hk := ?_) | (refine go_nw (hk := ?_); intro u; try simp only [llc, lln, lna, lza]) | (refine go_np (hk := ?_); intro id)) | (show GO _ _ _ _ _ (⟨none, none, _⟩ :: _) _; refine go_st (hk := ?_)) | (show GO _ _ _ _ _ (⟨_, some _, _⟩ :: _) _; first | refine go_in (hk := ?_) | refine go_out (hk := ?_) | refine go_void (hk := ?_)) | (show GK _ _ _ _ (blockK _ _ _); refine gk_past rfl ?_) | (show GC _ _ _ _ _ (.cond _ _ _) _; first | refine gc_yes (h1 := ?_) | refine gc_no (h1 := ?_))))
    refine gk_next (hk (i + 1) ⟨by omega, fun j hj => ?_⟩ (by omega))
    rcases Nat.lt_or_ge j i with g | g
    · exact hp j g
    · rw [show j = i by omega]; omega
  · have : i = ws.length := by omega
    subst this
    (repeat (first | refine gst (hk := ?_) | (show GO _ _ _ _ _ (⟨some _, none, _⟩ :: _) _; first | refine go_op (hk := ?_) | (refine go_nw (hk := ?_); intro u; try simp only [llc, lln, lna, lza]) | (refine go_np (hk := ?_); intro id)) | (show GO _ _ _ _ _ (⟨none, none, _⟩ :: _) _; refine go_st (hk := ?_)) | (show GO _ _ _ _ _ (⟨_, some _, _⟩ :: _) _; first | refine go_in (hk := ?_) | refine go_out (hk := ?_) | refine go_void (hk := ?_)) | (show GK _ _ _ _ (blockK _ _ _); refine gk_past rfl ?_) | (show GC _ _ _ _ _ (.cond _ _ _) _; first | refine gc_yes (h1 := ?_) | refine gc_no (h1 := ?_))))
    exact gk_ret rfl fun H' hH => ⟨by
      have : Loads xs ws := ⟨fun w hw => by
        obtain ⟨m, hm, rfl⟩ := nth_ex hw
        exact hp m hm, hS.1, by omega, hS.2.1, hS.2.2⟩
      simp [tupleOf, this], hH.leE⟩

structure BK where
  id : Nat
  k : Kd
  v : AV
  s : Nat
  e : Nat

def BKok (b : BK) : Prop := b.k = .rw ∨ (b.k = .ro ∧ ∃ id off, b.v = .slice id off (b.e - b.s) (some (b.e - b.s)) 2)

theorem BKok.kd {b : BK} (h : BKok b) : b.k = .rw ∨ b.k = .ro := h.imp (fun h => h) fun h => h.1

theorem specValidLoadsX_ok {H : Heap} {a b : AV} {xs ws : List Int} (ha : Ints H a xs) (hb : Ints H b ws) (hl : xs.length ≤ 1000000000) (hl' : ws.length ≤ 1000000000) :
    ACalls Try.prog fn_spec_ValidLoads [a, b] H fun r H' => r = .bool (decide (Loads xs ws)) ∧ H' = H := by
  refine ACalls.val ?_ rfl
  refine code_spec_ValidLoads.go [.roI a xs.length xs, .roI b ws.length ws] ⟨⟨rfl, ha⟩, ⟨rfl, hb⟩, trivial⟩ (by simp) ?_
  unfold mc_spec_ValidLoads
  (repeat (first | refine gst (hk := ?_) | (show GO _ _ _ _ _ (⟨some _, none, .call _ _⟩ :: _) _; first | (refine go_callp rfl code_spec_validLoads.callable (fun H hH => specValidLoads_ok (hH.ints (by exact Has.auto)) (hH.ints (by exact Has.auto)) (by omega) (by omega)) ?_)) | (show GO _ _ _ _ _ (⟨some _, none, _⟩ :: _) _; first | refine go_op (hk := ?_) | (refine go_nw (hk := ?_); intro u; try simp only [llc, lln, lna, lza]) | (refine go_np (hk := ?_); intro id)) | (show GO _ _ _ _ _ (⟨none, none, _⟩ :: _) _; refine go_st (hk := ?_)) | (show GO _ _ _ _ _ (⟨_, some _, _⟩ :: _) _; first | refine go_in (hk := ?_) | refine go_out (hk := ?_) | refine go_void (hk := ?_)) | (show GK _ _ _ _ (blockK _ _ _); refine gk_past rfl ?_) | (show GC _ _ _ _ _ (.cond _ _ _) _; first | refine gc_yes (h1 := ?_) | refine gc_no (h1 := ?_))))
  exact gk_ret rfl fun H' hH => ⟨rfl, hH.leE⟩

theorem lawFnExactValidLoads_ok {H : Heap} {a b : AV} {xs ys : List Int} (ha : Ints H a xs) (hb : Ints H b ys) : ACalls Try.prog fn_laws_FnExactValidLoads [a, b] H fun r _ => r = .bool true := by
  refine code_laws_FnExactValidLoads.go [.roI a xs.length xs, .roI b ys.length ys] ⟨⟨rfl, ha⟩, ⟨rfl, hb⟩, trivial⟩ (by simp) ?_
  unfold mc_laws_FnExactValidLoads
  (repeat (first | refine gst (hk := ?_) | (show GO _ _ _ _ _ (⟨some _, none, .call _ _⟩ :: _) _; first | (show GO _ _ _ _ _ (⟨some _, none, .call fn_laws_toIntS _⟩ :: _) _; refine go_toIntS (hk := ?_); try intro u) | (show GO _ _ _ _ _ (⟨some _, none, .call fn_laws_eqIntS _⟩ :: _) _; refine go_eqIntS (hk := ?_); try intro u) | (refine go_callp rfl code_spec_ValidLoads.callable (fun H hH => specValidLoadsX_ok (hH.ints (by exact Has.auto)) (hH.ints (by exact Has.auto)) (by omega) (by omega)) ?_) | (refine go_callp rfl code_impl_ValidLoads.callable (fun H hH => implValidLoads_ok (hH.ints (by exact Has.auto)) (hH.ints (by exact Has.auto)) (by omega) (by omega)) ?_)) | (show GO _ _ _ _ _ (⟨some _, none, _⟩ :: _) _; first | refine go_op (hk := ?_) | (refine go_nw (hk := ?_); intro u; try simp only [llc, lln, lna, lza]) | (refine go_np (hk := ?_); intro id)) | (show GO _ _ _ _ _ (⟨none, none, _⟩ :: _) _; refine go_st (hk := ?_)) | (show GO _ _ _ _ _ (⟨_, some _, _⟩ :: _) _; first | refine go_in (hk := ?_) | refine go_out (hk := ?_) | refine go_void (hk := ?_)) | (show GK _ _ _ _ (blockK _ _ _); refine gk_past rfl ?_) | (show GC _ _ _ _ _ (.cond _ _ _) _; first | refine gc_yes (h1 := ?_) | refine gc_no (h1 := ?_))))
  refine gc_cond rfl (fun h => ?_) (fun h => ?_)
  · (repeat (first | refine gst (hk := ?_) | (show GO _ _ _ _ _ (⟨some _, none, .call _ _⟩ :: _) _; first | (show GO _ _ _ _ _ (⟨some _, none, .call fn_laws_toIntS _⟩ :: _) _; refine go_toIntS (hk := ?_); try intro u) | (show GO _ _ _ _ _ (⟨some _, none, .call fn_laws_eqIntS _⟩ :: _) _; refine go_eqIntS (hk := ?_); try intro u) | (refine go_callp rfl code_spec_ValidLoads.callable (fun H hH => specValidLoadsX_ok (hH.ints (by exact Has.auto)) (hH.ints (by exact Has.auto)) (by omega) (by omega)) ?_) | (refine go_callp rfl code_impl_ValidLoads.callable (fun H hH => implValidLoads_ok (hH.ints (by exact Has.auto)) (hH.ints (by exact Has.auto)) (by omega) (by omega)) ?_)) | (show GO _ _ _ _ _ (⟨some _, none, _⟩ :: _) _; first | refine go_op (hk := ?_) | (refine go_nw (hk := ?_); intro u; try simp only [llc, lln, lna, lza]) | (refine go_np (hk := ?_); intro id)) | (show GO _ _ _ _ _ (⟨none, none, _⟩ :: _) _; refine go_st (hk := ?_)) | (show GO _ _ _ _ _ (⟨_, some _, _⟩ :: _) _; first | refine go_in (hk := ?_) | refine go_out (hk := ?_) | refine go_void (hk := ?_)) | (show GK _ _ _ _ (blockK _ _ _); refine gk_past rfl ?_) | (show GC _ _ _ _ _ (.cond _ _ _) _; first | refine gc_yes (h1 := ?_) | refine gc_no (h1 := ?_))))
    exact gk_ret rfl fun H' hH => rfl
  (repeat (first | refine gst (hk := ?_) | (show GO _ _ _ _ _ (⟨some _, none, .call _ _⟩ :: _) _; first | (show GO _ _ _ _ _ (⟨some _, none, .call fn_laws_toIntS _⟩ :: _) _; refine go_toIntS (hk := ?_); try intro u) | (show GO _ _ _ _ _ (⟨some _, none, .call fn_laws_eqIntS _⟩ :: _) _; refine go_eqIntS (hk := ?_); try intro u) | (refine go_callp rfl code_spec_ValidLoads.callable (fun H hH => specValidLoadsX_ok (hH.ints (by exact Has.auto)) (hH.ints (by exact Has.auto)) (by omega) (by omega)) ?_) | (refine go_callp rfl code_impl_ValidLoads.callable (fun H hH => implValidLoads_ok (hH.ints (by exact Has.auto)) (hH.ints (by exact Has.auto)) (by omega) (by omega)) ?_)) | (show GO _ _ _ _ _ (⟨some _, none, _⟩ :: _) _; first | refine go_op (hk := ?_) | (refine go_nw (hk := ?_); intro u; try simp only [llc, lln, lna, lza]) | (refine go_np (hk := ?_); intro id)) | (show GO _ _ _ _ _ (⟨none, none, _⟩ :: _) _; refine go_st (hk := ?_)) | (show GO _ _ _ _ _ (⟨_, some _, _⟩ :: _) _; first | refine go_in (hk := ?_) | refine go_out (hk := ?_) | refine go_void (hk := ?_)) | (show GK _ _ _ _ (blockK _ _ _); refine gk_past rfl ?_) | (show GC _ _ _ _ _ (.cond _ _ _) _; first | refine gc_yes (h1 := ?_) | refine gc_no (h1 := ?_))))
  refine gc_cond rfl (fun h => ?_) (fun h => ?_)
  · (repeat (first | refine gst (hk := ?_) | (show GO _ _ _ _ _ (⟨some _, none, .call _ _⟩ :: _) _; first | (show GO _ _ _ _ _ (⟨some _, none, .call fn_laws_toIntS _⟩ :: _) _; refine go_toIntS (hk := ?_); try intro u) | (show GO _ _ _ _ _ (⟨some _, none, .call fn_laws_eqIntS _⟩ :: _) _; refine go_eqIntS (hk := ?_); try intro u) | (refine go_callp rfl code_spec_ValidLoads.callable (fun H hH => specValidLoadsX_ok (hH.ints (by exact Has.auto)) (hH.ints (by exact Has.auto)) (by omega) (by omega)) ?_) | (refine go_callp rfl code_impl_ValidLoads.callable (fun H hH => implValidLoads_ok (hH.ints (by exact Has.auto)) (hH.ints (by exact Has.auto)) (by omega) (by omega)) ?_)) | (show GO _ _ _ _ _ (⟨some _, none, _⟩ :: _) _; first | refine go_op (hk := ?_) | (refine go_nw (hk := ?_); intro u; try simp only [llc, lln, lna, lza]) | (refine go_np (hk := ?_); intro id)) | (show GO _ _ _ _ _ (⟨none, none, _⟩ :: _) _; refine go_st (hk := ?_)) | (show GO _ _ _ _ _ (⟨_, some _, _⟩ :: _) _; first | refine go_in (hk := ?_) | refine go_out (hk := ?_) | refine go_void (hk := ?_)) | (show GK _ _ _ _ (blockK _ _ _); refine gk_past rfl ?_) | (show GC _ _ _ _ _ (.cond _ _ _) _; first | refine gc_yes (h1 := ?_) | refine gc_no (h1 := ?_))))
    exact gk_ret rfl fun H' hH => rfl
  (repeat (first | refine gst (hk := ?_) | (show GO _ _ _ _ _ (⟨some _, none, .call _ _⟩ :: _) _; first | (show GO _ _ _ _ _ (⟨some _, none, .call fn_laws_toIntS _⟩ :: _) _; refine go_toIntS (hk := ?_); try intro u) | (show GO _ _ _ _ _ (⟨some _, none, .call fn_laws_eqIntS _⟩ :: _) _; refine go_eqIntS (hk := ?_); try intro u) | (refine go_callp rfl code_spec_ValidLoads.callable (fun H hH => specValidLoadsX_ok (hH.ints (by exact Has.auto)) (hH.ints (by exact Has.auto)) (by omega) (by omega)) ?_) | (refine go_callp rfl code_impl_ValidLoads.callable (fun H hH => implValidLoads_ok (hH.ints (by exact Has.auto)) (hH.ints (by exact Has.auto)) (by omega) (by omega)) ?_)) | (show GO _ _ _ _ _ (⟨some _, none, _⟩ :: _) _; first | refine go_op (hk := ?_) | (refine go_nw (hk := ?_); intro u; try simp only [llc, lln, lna, lza]) | (refine go_np (hk := ?_); intro id)) | (show GO _ _ _ _ _ (⟨none, none, _⟩ :: _) _; refine go_st (hk := ?_)) | (show GO _ _ _ _ _ (⟨_, some _, _⟩ :: _) _; first | refine go_in (hk := ?_) | refine go_out (hk := ?_) | refine go_void (hk := ?_)) | (show GK _ _ _ _ (blockK _ _ _); refine gk_past rfl ?_) | (show GC _ _ _ _ _ (.cond _ _ _) _; first | refine gc_yes (h1 := ?_) | refine gc_no (h1 := ?_))))
  refine gc_cond rfl (fun hc => absurd Iff.rfl hc) (fun _ => ?_)
  (repeat (first | refine gst (hk := ?_) | (show GO _ _ _ _ _ (⟨some _, none, .call _ _⟩ :: _) _; first | (show GO _ _ _ _ _ (⟨some _, none, .call fn_laws_toIntS _⟩ :: _) _; refine go_toIntS (hk := ?_); try intro u) | (show GO _ _ _ _ _ (⟨some _, none, .call fn_laws_eqIntS _⟩ :: _) _; refine go_eqIntS (hk := ?_); try intro u) | (refine go_callp rfl code_spec_ValidLoads.callable (fun H hH => specValidLoadsX_ok (hH.ints (by exact Has.auto)) (hH.ints (by exact Has.auto)) (by omega) (by omega)) ?_) | (refine go_callp rfl code_impl_ValidLoads.callable (fun H hH => implValidLoads_ok (hH.ints (by exact Has.auto)) (hH.ints (by exact Has.auto)) (by omega) (by omega)) ?_)) | (show GO _ _ _ _ _ (⟨some _, none, _⟩ :: _) _; first | refine go_op (hk := ?_) | (refine go_nw (hk := ?_); intro u; try simp only [llc, lln, lna, lza]) | (refine go_np (hk := ?_); intro id)) | (show GO _ _ _ _ _ (⟨none, none, _⟩ :: _) _; refine go_st (hk := ?_)) | (show GO _ _ _ _ _ (⟨_, some _, _⟩ :: _) _; first | refine go_in (hk := ?_) | refine go_out (hk := ?_) | refine go_void (hk := ?_)) | (show GK _ _ _ _ (blockK _ _ _); refine gk_past rfl ?_) | (show GC _ _ _ _ _ (.cond _ _ _) _; first | refine gc_yes (h1 := ?_) | refine gc_no (h1 := ?_))))
  refine gc_cond rfl (fun hc => absurd rfl hc) (fun _ => ?_)
  (repeat (first | refine gst (hk := ?_) | (show GO _ _ _ _ _ (⟨some _, none, .call _ _⟩ :: _) _; first | (show GO _ _ _ _ _ (⟨some _, none, .call fn_laws_toIntS _⟩ :: _) _; refine go_toIntS (hk := ?_); try intro u) | (show GO _ _ _ _ _ (⟨some _, none, .call fn_laws_eqIntS _⟩ :: _) _; refine go_eqIntS (hk := ?_); try intro u) | (refine go_callp rfl code_spec_ValidLoads.callable (fun H hH => specValidLoadsX_ok (hH.ints (by exact Has.auto)) (hH.ints (by exact Has.auto)) (by omega) (by omega)) ?_) | (refine go_callp rfl code_impl_ValidLoads.callable (fun H hH => implValidLoads_ok (hH.ints (by exact Has.auto)) (hH.ints (by exact Has.auto)) (by omega) (by omega)) ?_)) | (show GO _ _ _ _ _ (⟨some _, none, _⟩ :: _) _; first | refine go_op (hk := ?_) | (refine go_nw (hk := ?_); intro u; try simp only [llc, lln, lna, lza]) | (refine go_np (hk := ?_); intro id)) | (show GO _ _ _ _ _ (⟨none, none, _⟩ :: _) _; refine go_st (hk := ?_)) | (show GO _ _ _ _ _ (⟨_, some _, _⟩ :: _) _; first | refine go_in (hk := ?_) | refine go_out (hk := ?_) | refine go_void (hk := ?_)) | (show GK _ _ _ _ (blockK _ _ _); refine gk_past rfl ?_) | (show GC _ _ _ _ _ (.cond _ _ _) _; first | refine gc_yes (h1 := ?_) | refine gc_no (h1 := ?_))))
  refine gc_cond rfl (fun hc => absurd rfl hc) (fun _ => ?_)
  (repeat (first | refine gst (hk := ?_) | (show GO _ _ _ _ _ (⟨some _, none, .call _ _⟩ :: _) _; first | (show GO _ _ _ _ _ (⟨some _, none, .call fn_laws_toIntS _⟩ :: _) _; refine go_toIntS (hk := ?_); try intro u) | (show GO _ _ _ _ _ (⟨some _, none, .call fn_laws_eqIntS _⟩ :: _) _; refine go_eqIntS (hk := ?_); try intro u) | (refine go_callp rfl code_spec_ValidLoads.callable (fun H hH => specValidLoadsX_ok (hH.ints (by exact Has.auto)) (hH.ints (by exact Has.auto)) (by omega) (by omega)) ?_) | (refine go_callp rfl code_impl_ValidLoads.callable (fun H hH => implValidLoads_ok (hH.ints (by exact Has.auto)) (hH.ints (by exact Has.auto)) (by omega) (by omega)) ?_)) | (show GO _ _ _ _ _ (⟨some _, none, _⟩ :: _) _; first | refine go_op (hk := ?_) | (refine go_nw (hk := ?_); intro u; try simp only [llc, lln, lna, lza]) | (refine go_np (hk := ?_); intro id)) | (show GO _ _ _ _ _ (⟨none, none, _⟩ :: _) _; refine go_st (hk := ?_)) | (show GO _ _ _ _ _ (⟨_, some _, _⟩ :: _) _; first | refine go_in (hk := ?_) | refine go_out (hk := ?_) | refine go_void (hk := ?_)) | (show GK _ _ _ _ (blockK _ _ _); refine gk_past rfl ?_) | (show GC _ _ _ _ _ (.cond _ _ _) _; first | refine gc_yes (h1 := ?_) | refine gc_no (h1 := ?_))))
  exact gk_ret rfl fun H' hH => rfl

inductive Cuts {α : Type} (op : α → α → α) (c : Nat → Nat → α) : Nat → Nat → Nat → α → Prop
  | one {i k : Nat} (h : i < k) : Cuts op c 1 i k (c i k)
  | snoc {p i m k : Nat} {v : α} (h : Cuts op c p i m v) (hk : m < k) : Cuts op c (p + 1) i k (op v (c m k))

theorem Cuts.lt {α : Type} {op : α → α → α} {c : Nat → Nat → α} {p i k : Nat} {v : α} (h : Cuts op c p i k v) : i < k ∧ 1 ≤ p ∧ i + p ≤ k := by
  induction h with
  | one h => omega
  | snoc h hk ih => omega

def LeastC {α : Type} (op : α → α → α) (le : α → α → Prop) (c : Nat → Nat → α) (P i k : Nat) (v : α) : Prop := (∃ q, q ≤ P ∧ Cuts op c q i k v) ∧ ∀ q w, q ≤ P → Cuts op c q i k w → le v w

theorem LeastC.congr {α : Type} {op : α → α → α} {le : α → α → Prop} {c d : Nat → Nat → α} {n P : Nat} (hd : ∀ i k, i < k → k ≤ n → d i k = c i k) {v : α} (h : LeastC op le d P 0 n v) : LeastC op le c P 0 n v := by
  have key : ∀ {c d : Nat → Nat → α}, (∀ i k, i < k → k ≤ n → d i k = c i k) → ∀ {p i k : Nat} {v : α}, Cuts op d p i k v → k ≤ n → Cuts op c p i k v := by
    intro c d hd p i k v h
    induction h with
    | one h => intro hk; rw [hd _ _ h hk]; exact .one h
    | snoc h hmk ih => intro hk; rw [hd _ _ hmk hk]; exact .snoc (ih (by omega)) hmk
  obtain ⟨⟨q, h1, h2⟩, h3⟩ := h
  exact ⟨⟨q, h1, key hd h2 (Nat.le_refl _)⟩, fun q w hq hw => h3 q w hq (key (fun i k h1 h2 => (hd i k h1 h2).symm) hw (Nat.le_refl _))⟩

structure CE where
  p : Nat
  v : Rat
  b : Nat

/-- the stamps that have come -/
def GoneC (L : List CE) (seen : List Nat) : Prop := seen.Nodup ∧ ∀ b ∈ seen, b ∈ L.map CE.b

theorem GoneC.le {L : List CE} {seen : List Nat} (h : GoneC L seen) : seen.length ≤ L.length := by
  have := h.1.length_le_of_subset (fun b hb => h.2 b hb : seen ⊆ L.map CE.b)
  rwa [List.length_map] at this

theorem GoneC.snoc {L : List CE} {seen : List Nat} (h : GoneC L seen) {e : CE} (he : e ∈ L) (hn : e.b ∉ seen) : GoneC L (seen ++ [e.b]) := by
  refine ⟨?_, fun b hb => ?_⟩
  · rw [List.nodup_append]
    exact ⟨h.1, by simp, fun a ha b hb => by simp only [List.mem_singleton] at hb; subst hb; exact fun h => hn (h ▸ ha)⟩
  · rcases List.mem_append.1 hb with hb | hb
    · exact h.2 b hb
    · simp only [List.mem_singleton] at hb; subst hb; exact List.mem_map.2 ⟨e, he, rfl⟩

theorem GoneC.lt {L : List CE} {seen : List Nat} (h : GoneC L seen) {e : CE} (he : e ∈ L) (hn : e.b ∉ seen) : L.length - (seen ++ [e.b]).length < L.length - seen.length := by
  have := (h.snoc he hn).le
  rw [List.length_append, List.length_singleton] at this ⊢
  omega

end Go.Rx.Try
