import Derived.Test.YtophpmdlgphihacFnExactRoomTriedCode
import Derived.Test.YtophpmdlgphihacRxJ
namespace Go.Rx.Try
open Go.Proofs
set_option maxRecDepth 100000
set_option maxHeartbeats 8000000
set_option linter.unusedSimpArgs false
set_option linter.unusedVariables false

theorem eqIntS_ok {H : Heap} {a b : AV} {xs ys : List Int} (ha : Ints H a xs) (hb : Ints H b ys) (hl : xs.length ≤ 1000000000) : ACalls Try.prog fn_laws_eqIntS [a, b] H fun r H' => r = .bool (decide (xs = ys)) ∧ H' = H := by
  refine ACalls.val ?_ rfl
  refine code_laws_eqIntS.go [.roI a xs.length xs, .roI b ys.length ys] ⟨⟨rfl, ha⟩, ⟨rfl, hb⟩, trivial⟩ (by simp) ?_
  unfold mc_laws_eqIntS
  (repeat (first | refine gst (hk := ?_) | (with_reducible refine gc_drq ?_; intro _) | (show GO _ _ _ _ _ (⟨some _, none, _⟩ :: _) _; first | refine go_op (hk := ?_) | (refine go_nw (hk := ?_); intro u; try simp only [llc, lln, lna, lza]) | (refine go_np (hk := ?_); intro id)) | (show GQ _ _ _ _ _ _ _ (⟨some _, none, _⟩ :: _) _; first | refine gq_op (hk := ?_) | (refine gq_nw (hk := ?_); intro u; try simp only [llc, lln, lna, lza])) | (show GO _ _ _ _ _ (⟨none, none, _⟩ :: _) _; refine go_st (hk := ?_)) | (show GO _ _ _ _ _ (⟨_, some _, _⟩ :: _) _; first | refine go_in (hk := ?_) | refine go_out (hk := ?_) | refine go_void (hk := ?_)) | (show GQ _ _ _ _ _ _ _ (⟨_, some _, _⟩ :: _) _; first | refine gq_in (hk := ?_) | refine gq_out (hk := ?_) | refine gq_void (hk := ?_)) | (show GK _ _ _ _ (blockK _ _ _); refine gk_past rfl ?_) | (show GC _ _ _ _ _ (.cond _ _ _) _; first | refine gc_yes (h1 := ?_) | refine gc_no (h1 := ?_))))
  refine gc_cond rfl (fun h => ?_) (fun h => ?_)
  · (repeat (first | refine gst (hk := ?_) | (with_reducible refine gc_drq ?_; intro _) | (show GO _ _ _ _ _ (⟨some _, none, _⟩ :: _) _; first | refine go_op (hk := ?_) | (refine go_nw (hk := ?_); intro u; try simp only [llc, lln, lna, lza]) | (refine go_np (hk := ?_); intro id)) | (show GQ _ _ _ _ _ _ _ (⟨some _, none, _⟩ :: _) _; first | refine gq_op (hk := ?_) | (refine gq_nw (hk := ?_); intro u; try simp only [llc, lln, lna, lza])) | (show GO _ _ _ _ _ (⟨none, none, _⟩ :: _) _; refine go_st (hk := ?_)) | (show GO _ _ _ _ _ (⟨_, some _, _⟩ :: _) _; first | refine go_in (hk := ?_) | refine go_out (hk := ?_) | refine go_void (hk := ?_)) | (show GQ _ _ _ _ _ _ _ (⟨_, some _, _⟩ :: _) _; first | refine gq_in (hk := ?_) | refine gq_out (hk := ?_) | refine gq_void (hk := ?_)) | (show GK _ _ _ _ (blockK _ _ _); refine gk_past rfl ?_) | (show GC _ _ _ _ _ (.cond _ _ _) _; first | refine gc_yes (h1 := ?_) | refine gc_no (h1 := ?_))))
    refine gk_ret rfl fun H' hH => ⟨?_, hH.leE⟩
    have : ¬ xs = ys := by intro e; subst e; exact h rfl
    simp [tupleOf, this]
  have hlen : xs.length = ys.length := by omega
  (repeat (first | refine gst (hk := ?_) | (with_reducible refine gc_drq ?_; intro _) | (show GO _ _ _ _ _ (⟨some _, none, _⟩ :: _) _; first | refine go_op (hk := ?_) | (refine go_nw (hk := ?_); intro u; try simp only [llc, lln, lna, lza]) | (refine go_np (hk := ?_); intro id)) | (show GQ _ _ _ _ _ _ _ (⟨some _, none, _⟩ :: _) _; first | refine gq_op (hk := ?_) | (refine gq_nw (hk := ?_); intro u; try simp only [llc, lln, lna, lza])) | (show GO _ _ _ _ _ (⟨none, none, _⟩ :: _) _; refine go_st (hk := ?_)) | (show GO _ _ _ _ _ (⟨_, some _, _⟩ :: _) _; first | refine go_in (hk := ?_) | refine go_out (hk := ?_) | refine go_void (hk := ?_)) | (show GQ _ _ _ _ _ _ _ (⟨_, some _, _⟩ :: _) _; first | refine gq_in (hk := ?_) | refine gq_out (hk := ?_) | refine gq_void (hk := ?_)) | (show GK _ _ _ _ (blockK _ _ _); refine gk_past rfl ?_) | (show GC _ _ _ _ _ (.cond _ _ _) _; first | refine gc_yes (h1 := ?_) | refine gc_no (h1 := ?_))))
  refine gc_loop (fun i : Nat => [(0, a), (1, b), (5, .int .i64 (i : Int))]) (fun _ => [.roI a xs.length xs, .roI b ys.length ys]) (fun i => i ≤ xs.length ∧ ∀ k < i, nth xs k = nth ys k) (fun i => xs.length - i) 0 ⟨Nat.zero_le _, by simp⟩ (hb := ?_)
  rintro i ⟨hi, hk⟩ I ν m hn
  (repeat (first | refine gst (hk := ?_) | (with_reducible refine gc_drq ?_; intro _) | (show GO _ _ _ _ _ (⟨some _, none, _⟩ :: _) _; first | refine go_op (hk := ?_) | (refine go_nw (hk := ?_); intro u; try simp only [llc, lln, lna, lza]) | (refine go_np (hk := ?_); intro id)) | (show GQ _ _ _ _ _ _ _ (⟨some _, none, _⟩ :: _) _; first | refine gq_op (hk := ?_) | (refine gq_nw (hk := ?_); intro u; try simp only [llc, lln, lna, lza])) | (show GO _ _ _ _ _ (⟨none, none, _⟩ :: _) _; refine go_st (hk := ?_)) | (show GO _ _ _ _ _ (⟨_, some _, _⟩ :: _) _; first | refine go_in (hk := ?_) | refine go_out (hk := ?_) | refine go_void (hk := ?_)) | (show GQ _ _ _ _ _ _ _ (⟨_, some _, _⟩ :: _) _; first | refine gq_in (hk := ?_) | refine gq_out (hk := ?_) | refine gq_void (hk := ?_)) | (show GK _ _ _ _ (blockK _ _ _); refine gk_past rfl ?_) | (show GC _ _ _ _ _ (.cond _ _ _) _; first | refine gc_yes (h1 := ?_) | refine gc_no (h1 := ?_))))
  refine gc_cond rfl (fun h => ?_) (fun h => ?_)
  · (repeat (first | refine gst (hk := ?_) | (with_reducible refine gc_drq ?_; intro _) | (show GO _ _ _ _ _ (⟨some _, none, _⟩ :: _) _; first | refine go_op (hk := ?_) | (refine go_nw (hk := ?_); intro u; try simp only [llc, lln, lna, lza]) | (refine go_np (hk := ?_); intro id)) | (show GQ _ _ _ _ _ _ _ (⟨some _, none, _⟩ :: _) _; first | refine gq_op (hk := ?_) | (refine gq_nw (hk := ?_); intro u; try simp only [llc, lln, lna, lza])) | (show GO _ _ _ _ _ (⟨none, none, _⟩ :: _) _; refine go_st (hk := ?_)) | (show GO _ _ _ _ _ (⟨_, some _, _⟩ :: _) _; first | refine go_in (hk := ?_) | refine go_out (hk := ?_) | refine go_void (hk := ?_)) | (show GQ _ _ _ _ _ _ _ (⟨_, some _, _⟩ :: _) _; first | refine gq_in (hk := ?_) | refine gq_out (hk := ?_) | refine gq_void (hk := ?_)) | (show GK _ _ _ _ (blockK _ _ _); refine gk_past rfl ?_) | (show GC _ _ _ _ _ (.cond _ _ _) _; first | refine gc_yes (h1 := ?_) | refine gc_no (h1 := ?_))))
    refine gc_cond rfl (fun he => ?_) (fun he => ?_)
    · (repeat (first | refine gst (hk := ?_) | (with_reducible refine gc_drq ?_; intro _) | (show GO _ _ _ _ _ (⟨some _, none, _⟩ :: _) _; first | refine go_op (hk := ?_) | (refine go_nw (hk := ?_); intro u; try simp only [llc, lln, lna, lza]) | (refine go_np (hk := ?_); intro id)) | (show GQ _ _ _ _ _ _ _ (⟨some _, none, _⟩ :: _) _; first | refine gq_op (hk := ?_) | (refine gq_nw (hk := ?_); intro u; try simp only [llc, lln, lna, lza])) | (show GO _ _ _ _ _ (⟨none, none, _⟩ :: _) _; refine go_st (hk := ?_)) | (show GO _ _ _ _ _ (⟨_, some _, _⟩ :: _) _; first | refine go_in (hk := ?_) | refine go_out (hk := ?_) | refine go_void (hk := ?_)) | (show GQ _ _ _ _ _ _ _ (⟨_, some _, _⟩ :: _) _; first | refine gq_in (hk := ?_) | refine gq_out (hk := ?_) | refine gq_void (hk := ?_)) | (show GK _ _ _ _ (blockK _ _ _); refine gk_past rfl ?_) | (show GC _ _ _ _ _ (.cond _ _ _) _; first | refine gc_yes (h1 := ?_) | refine gc_no (h1 := ?_))))
      refine gk_ret rfl fun H' hH => ⟨?_, hH.leE⟩
      have : ¬ xs = ys := by intro e; subst e; exact he rfl
      simp [tupleOf, this]
    · (repeat (first | refine gst (hk := ?_) | (with_reducible refine gc_drq ?_; intro _) | (show GO _ _ _ _ _ (⟨some _, none, _⟩ :: _) _; first | refine go_op (hk := ?_) | (refine go_nw (hk := ?_); intro u; try simp only [llc, lln, lna, lza]) | (refine go_np (hk := ?_); intro id)) | (show GQ _ _ _ _ _ _ _ (⟨some _, none, _⟩ :: _) _; first | refine gq_op (hk := ?_) | (refine gq_nw (hk := ?_); intro u; try simp only [llc, lln, lna, lza])) | (show GO _ _ _ _ _ (⟨none, none, _⟩ :: _) _; refine go_st (hk := ?_)) | (show GO _ _ _ _ _ (⟨_, some _, _⟩ :: _) _; first | refine go_in (hk := ?_) | refine go_out (hk := ?_) | refine go_void (hk := ?_)) | (show GQ _ _ _ _ _ _ _ (⟨_, some _, _⟩ :: _) _; first | refine gq_in (hk := ?_) | refine gq_out (hk := ?_) | refine gq_void (hk := ?_)) | (show GK _ _ _ _ (blockK _ _ _); refine gk_past rfl ?_) | (show GC _ _ _ _ _ (.cond _ _ _) _; first | refine gc_yes (h1 := ?_) | refine gc_no (h1 := ?_))))
      refine gk_next (hn (i + 1) ⟨by omega, ?_⟩ (by omega))
      intro k hk'
      by_cases hki : k = i
      · subst hki; omega
      · exact hk k (by omega)
  · (repeat (first | refine gst (hk := ?_) | (with_reducible refine gc_drq ?_; intro _) | (show GO _ _ _ _ _ (⟨some _, none, _⟩ :: _) _; first | refine go_op (hk := ?_) | (refine go_nw (hk := ?_); intro u; try simp only [llc, lln, lna, lza]) | (refine go_np (hk := ?_); intro id)) | (show GQ _ _ _ _ _ _ _ (⟨some _, none, _⟩ :: _) _; first | refine gq_op (hk := ?_) | (refine gq_nw (hk := ?_); intro u; try simp only [llc, lln, lna, lza])) | (show GO _ _ _ _ _ (⟨none, none, _⟩ :: _) _; refine go_st (hk := ?_)) | (show GO _ _ _ _ _ (⟨_, some _, _⟩ :: _) _; first | refine go_in (hk := ?_) | refine go_out (hk := ?_) | refine go_void (hk := ?_)) | (show GQ _ _ _ _ _ _ _ (⟨_, some _, _⟩ :: _) _; first | refine gq_in (hk := ?_) | refine gq_out (hk := ?_) | refine gq_void (hk := ?_)) | (show GK _ _ _ _ (blockK _ _ _); refine gk_past rfl ?_) | (show GC _ _ _ _ _ (.cond _ _ _) _; first | refine gc_yes (h1 := ?_) | refine gc_no (h1 := ?_))))
    refine gk_ret rfl fun H' hH => ⟨?_, hH.leE⟩
    have : xs = ys := list_ext_getD hlen fun k hk' => hk k (by omega)
    simp [tupleOf, this]

theorem toIntS_ok {H : Heap} {a : AV} {xs : List Int} (ha : Ints H a xs) (hl : xs.length ≤ 1000000000) : ACalls Try.prog fn_laws_toIntS [a] H fun r H' => OwnI H H' r xs ∧ Le H H' := by
  refine code_laws_toIntS.go [.roI a xs.length xs] ⟨⟨rfl, ha⟩, trivial⟩ (by simp) ?_
  unfold mc_laws_toIntS
  (repeat (first | refine gst (hk := ?_) | (show GO _ _ _ _ _ (⟨some _, none, _⟩ :: _) _; first | refine go_op (hk := ?_) | (refine go_nw (hk := ?_); intro u; try simp only [llc, lln, lna, lza]) | (refine go_np (hk := ?_); intro id)) | (show GO _ _ _ _ _ (⟨none, none, _⟩ :: _) _; refine go_st (hk := ?_)) | (show GO _ _ _ _ _ (⟨_, some _, _⟩ :: _) _; first | refine go_in (hk := ?_) | refine go_out (hk := ?_) | refine go_void (hk := ?_)) | (show GK _ _ _ _ (blockK _ _ _); refine gk_past rfl ?_) | (show GC _ _ _ _ _ (.cond _ _ _) _; first | refine gc_yes (h1 := ?_) | refine gc_no (h1 := ?_))))
  refine gc_up xs.length (fun i => [(0, a), (3, u), (4, .int .i64 (i : Int))]) (fun i => [.rwI u xs.length (xs.take i ++ List.replicate (xs.length - i) 0), .roI a xs.length xs]) (hb := ?_)
  intro i hi I ν m hn
  (repeat (first | refine gst (hk := ?_) | (show GO _ _ _ _ _ (⟨some _, none, _⟩ :: _) _; first | refine go_op (hk := ?_) | (refine go_nw (hk := ?_); intro u; try simp only [llc, lln, lna, lza]) | (refine go_np (hk := ?_); intro id)) | (show GO _ _ _ _ _ (⟨none, none, _⟩ :: _) _; refine go_st (hk := ?_)) | (show GO _ _ _ _ _ (⟨_, some _, _⟩ :: _) _; first | refine go_in (hk := ?_) | refine go_out (hk := ?_) | refine go_void (hk := ?_)) | (show GK _ _ _ _ (blockK _ _ _); refine gk_past rfl ?_) | (show GC _ _ _ _ _ (.cond _ _ _) _; first | refine gc_yes (h1 := ?_) | refine gc_no (h1 := ?_))))
  refine gc_cond rfl (fun h => ?_) (fun h => ?_)
  · (repeat (first | refine gst (hk := ?_) | (show GO _ _ _ _ _ (⟨some _, none, _⟩ :: _) _; first | refine go_op (hk := ?_) | (refine go_nw (hk := ?_); intro u; try simp only [llc, lln, lna, lza]) | (refine go_np (hk := ?_); intro id)) | (show GO _ _ _ _ _ (⟨none, none, _⟩ :: _) _; refine go_st (hk := ?_)) | (show GO _ _ _ _ _ (⟨_, some _, _⟩ :: _) _; first | refine go_in (hk := ?_) | refine go_out (hk := ?_) | refine go_void (hk := ?_)) | (show GK _ _ _ _ (blockK _ _ _); refine gk_past rfl ?_) | (show GC _ _ _ _ _ (.cond _ _ _) _; first | refine gc_yes (h1 := ?_) | refine gc_no (h1 := ?_))))
    rw [fill_step (xs := xs) (by omega) _ rfl rfl]
    exact gk_next (hn (by omega))
  · (repeat (first | refine gst (hk := ?_) | (show GO _ _ _ _ _ (⟨some _, none, _⟩ :: _) _; first | refine go_op (hk := ?_) | (refine go_nw (hk := ?_); intro u; try simp only [llc, lln, lna, lza]) | (refine go_np (hk := ?_); intro id)) | (show GO _ _ _ _ _ (⟨none, none, _⟩ :: _) _; refine go_st (hk := ?_)) | (show GO _ _ _ _ _ (⟨_, some _, _⟩ :: _) _; first | refine go_in (hk := ?_) | refine go_out (hk := ?_) | refine go_void (hk := ?_)) | (show GK _ _ _ _ (blockK _ _ _); refine gk_past rfl ?_) | (show GC _ _ _ _ _ (.cond _ _ _) _; first | refine gc_yes (h1 := ?_) | refine gc_no (h1 := ?_))))
    have : i = xs.length := by omega
    subst this
    refine gk_ret rfl fun H' hH => ?_
    have := hH.give .head
    simpa [OwnI, tupleOf] using this

theorem go_toIntS {A : Heap} {X : List Nat} {E : List (Nat × AV)} {S : Sig} {K : St → Prop} {r : List MI} {d n : Nat} {v : AV} {x : MX} {xs : List Int} (hx : evE E x = some v := by exact rfl) (hh : Has S v 1 n (ints xs) := by exact Has.auto) (hl : n ≤ 1000000000 := by omega)
    (hk : ∀ u, GO Try.prog A X ((d, u) :: E) (.rwI u n xs :: S) r K) : GO Try.prog A X E S (⟨some d, none, .call fn_laws_toIntS [x]⟩ :: r) K := by
  have hn : n = xs.length ∨ n ≠ xs.length := by omega
  rcases hn with rfl | hn
  · refine go_calln (by simp only [evsE, hx]) code_laws_toIntS.callable (fun H hH => toIntS_ok (hH.ints hh) hl) hk
  · refine ⟨fun s hf => ?_⟩
    have h1 := (hf.ok.valsA hh).len
    have h2 := (hf.ok.ints hh).len
    omega

theorem go_eqIntS {A : Heap} {X : List Nat} {E : List (Nat × AV)} {S : Sig} {K : St → Prop} {r : List MI} {d n m : Nat} {v w : AV} {x y : MX} {xs ys : List Int} (hx : evE E x = some v := by exact rfl) (hy : evE E y = some w := by exact rfl) (hh : Has S v 1 n (ints xs) := by exact Has.auto) (hh' : Has S w 1 m (ints ys) := by exact Has.auto) (hl : n ≤ 1000000000 := by omega)
    (hk : GO Try.prog A X ((d, .bool (decide (xs = ys))) :: E) S r K) : GO Try.prog A X E S (⟨some d, none, .call fn_laws_eqIntS [x, y]⟩ :: r) K := by
  refine go_callp (by simp only [evsE, hx, hy]) code_laws_eqIntS.callable (fun H hH => eqIntS_ok (hH.ints hh) (hH.ints hh') ?_) hk
  have h1 := (hH.valsA hh).len
  have h2 := (hH.ints hh).len
  omega

theorem inRange_ok {H : Heap} {a b n : Int} : ACalls Try.prog fn_spec_inRange [.int .i64 n, .int .i64 a, .int .i64 b] H fun r H' => r = .bool (decide (a ≤ n ∧ n ≤ b)) ∧ H' = H := by
  refine ACalls.val ?_ rfl
  refine code_spec_inRange.go [] trivial (by simp) ?_
  unfold mc_spec_inRange
  (repeat (first | refine gst (hk := ?_) | (show GO _ _ _ _ _ (⟨some _, none, _⟩ :: _) _; first | refine go_op (hk := ?_) | (refine go_nw (hk := ?_); intro u; try simp only [llc, lln, lna, lza]) | (refine go_np (hk := ?_); intro id)) | (show GO _ _ _ _ _ (⟨none, none, _⟩ :: _) _; refine go_st (hk := ?_)) | (show GO _ _ _ _ _ (⟨_, some _, _⟩ :: _) _; first | refine go_in (hk := ?_) | refine go_out (hk := ?_) | refine go_void (hk := ?_)) | (show GK _ _ _ _ (blockK _ _ _); refine gk_past rfl ?_) | (show GC _ _ _ _ _ (.cond _ _ _) _; first | refine gc_yes (h1 := ?_) | refine gc_no (h1 := ?_))))
  refine go_split 10 rfl (fun h => ?_) (fun h => ?_)
  · (repeat (first | refine gst (hk := ?_) | (show GO _ _ _ _ _ (⟨some _, none, _⟩ :: _) _; first | refine go_op (hk := ?_) | (refine go_nw (hk := ?_); intro u; try simp only [llc, lln, lna, lza]) | (refine go_np (hk := ?_); intro id)) | (show GO _ _ _ _ _ (⟨none, none, _⟩ :: _) _; refine go_st (hk := ?_)) | (show GO _ _ _ _ _ (⟨_, some _, _⟩ :: _) _; first | refine go_in (hk := ?_) | refine go_out (hk := ?_) | refine go_void (hk := ?_)) | (show GK _ _ _ _ (blockK _ _ _); refine gk_past rfl ?_) | (show GC _ _ _ _ _ (.cond _ _ _) _; first | refine gc_yes (h1 := ?_) | refine gc_no (h1 := ?_))))
    refine gk_ret rfl fun H' hH => ⟨?_, hH.leE⟩
    simp [tupleOf, h]
  · (repeat (first | refine gst (hk := ?_) | (show GO _ _ _ _ _ (⟨some _, none, _⟩ :: _) _; first | refine go_op (hk := ?_) | (refine go_nw (hk := ?_); intro u; try simp only [llc, lln, lna, lza]) | (refine go_np (hk := ?_); intro id)) | (show GO _ _ _ _ _ (⟨none, none, _⟩ :: _) _; refine go_st (hk := ?_)) | (show GO _ _ _ _ _ (⟨_, some _, _⟩ :: _) _; first | refine go_in (hk := ?_) | refine go_out (hk := ?_) | refine go_void (hk := ?_)) | (show GK _ _ _ _ (blockK _ _ _); refine gk_past rfl ?_) | (show GC _ _ _ _ _ (.cond _ _ _) _; first | refine gc_yes (h1 := ?_) | refine gc_no (h1 := ?_))))
    refine gk_ret rfl fun H' hH => ⟨?_, hH.leE⟩
    simp [tupleOf, h]

theorem go_inRange {A : Heap} {X : List Nat} {E : List (Nat × AV)} {S : Sig} {K : St → Prop} {r : List MI} {d : Nat} {x y z : MX} {n a b : Int} (hx : evE E x = some (.int .i64 n) := by exact rfl) (hy : evE E y = some (.int .i64 a) := by exact rfl) (hz : evE E z = some (.int .i64 b) := by exact rfl)
    (hk : GO Try.prog A X ((d, .bool (decide (a ≤ n ∧ n ≤ b))) :: E) S r K) : GO Try.prog A X E S (⟨some d, none, .call fn_spec_inRange [x, y, z]⟩ :: r) K :=
  go_callp (by simp only [evsE, hx, hy, hz]) code_spec_inRange.callable (fun H hH => inRange_ok) hk

def addAt (l : List Int) (p : Nat) (x : Int) : List Int := l.set p (IntKind.wrap .i64 (nth l p + x))

def rowAdd (l : List Int) (i : Nat) (x : Int) : Nat → List Int
  | 0 => l
  | j + 1 => addAt (rowAdd l i x j) (i + j) x

def convTo (out : List Int) (k : Nat) : Nat → List Int
  | 0 => List.replicate (out.length + k - 1) 0
  | i + 1 => rowAdd (convTo out k i) i (nth out i) k

def conv (out : List Int) (k : Nat) : List Int := convTo out k out.length

theorem bool_iff {p q : Prop} [Decidable p] [Decidable q] (h : p ↔ q) : AV.bool (decide p) = AV.bool (decide q) := by
  rw [AV.bool.injEq, decide_eq_decide]; exact h

theorem nth_mem {xs : List Int} {i : Nat} (h : i < xs.length) : nth xs i ∈ xs := by rw [nth_of h]; exact List.getElem_mem h

def Bd (b : Int) (xs : List Int) : Prop := ∀ x ∈ xs, -b ≤ x ∧ x ≤ b

theorem Bd.nth {b : Int} {xs : List Int} (h : Bd b xs) (hb : 0 ≤ b) (i : Nat) : -b ≤ nth xs i ∧ nth xs i ≤ b := by
  by_cases hi : i < xs.length
  · exact h _ (nth_mem hi)
  · have : Rx.nth xs i = 0 := by simp [Rx.nth, Nat.le_of_not_lt hi]
    omega

theorem Bd.one {b x : Int} (h : -b ≤ x ∧ x ≤ b) : Bd b [x] := by
  intro y hy; simp only [List.mem_singleton] at hy; subst hy; exact h

theorem has_ok {H : Heap} {p i : Nat} (hi : i ≤ 63) : ACalls Try.prog fn_impl_places_has [.int .u64 (p : Int), .int .i64 (i : Int)] H fun r H' => r = .bool (decide (p / 2 ^ i % 2 = 1)) ∧ H' = H := by
  refine ACalls.val ?_ rfl
  refine code_impl_places_has.go [] trivial (by simp) ?_
  unfold mc_impl_places_has
  (repeat (first | refine gst (hk := ?_) | (show GO _ _ _ _ _ (⟨some _, none, _⟩ :: _) _; first | refine go_op (hk := ?_) | (refine go_nw (hk := ?_); intro u; try simp only [llc, lln, lna, lza]) | (refine go_np (hk := ?_); intro id)) | (show GO _ _ _ _ _ (⟨none, none, _⟩ :: _) _; refine go_st (hk := ?_)) | (show GO _ _ _ _ _ (⟨_, some _, _⟩ :: _) _; first | refine go_in (hk := ?_) | refine go_out (hk := ?_) | refine go_void (hk := ?_)) | (show GK _ _ _ _ (blockK _ _ _); refine gk_past rfl ?_) | (show GC _ _ _ _ _ (.cond _ _ _) _; first | refine gc_yes (h1 := ?_) | refine gc_no (h1 := ?_))))
  refine gk_ret rfl fun H' hH => ⟨?_, hH.leE⟩
  exact bool_iff (by omega)

theorem firstPlaces_ok {H : Heap} {n : Nat} (hn : n ≤ 62) : ACalls Try.prog fn_impl_firstPlaces [.int .i64 (n : Int)] H fun r H' => r = .int .u64 ((2 ^ n - 1 : Nat) : Int) ∧ H' = H := by
  refine ACalls.val ?_ rfl
  have h1 : 2 ^ n ≤ 2 ^ 62 := Nat.pow_le_pow_right (by omega) hn
  have h2 : 0 < 2 ^ n := Nat.pow_pos (by omega)
  refine code_impl_firstPlaces.go [] trivial (by simp) ?_
  unfold mc_impl_firstPlaces
  (repeat (first | refine gst (hk := ?_) | (show GO _ _ _ _ _ (⟨some _, none, _⟩ :: _) _; first | refine go_op (hk := ?_) | (refine go_nw (hk := ?_); intro u; try simp only [llc, lln, lna, lza]) | (refine go_np (hk := ?_); intro id)) | (show GO _ _ _ _ _ (⟨none, none, _⟩ :: _) _; refine go_st (hk := ?_)) | (show GO _ _ _ _ _ (⟨_, some _, _⟩ :: _) _; first | refine go_in (hk := ?_) | refine go_out (hk := ?_) | refine go_void (hk := ?_)) | (show GK _ _ _ _ (blockK _ _ _); refine gk_past rfl ?_) | (show GC _ _ _ _ _ (.cond _ _ _) _; first | refine gc_yes (h1 := ?_) | refine gc_no (h1 := ?_))))
  exact gk_ret rfl fun H' hH => ⟨rfl, hH.leE⟩

noncomputable instance (b : Int) (xs : List Int) : Decidable (Bd b xs) := Classical.propDecidable _

/-- the bits of the numbers above 0 -/
def Bits (l : List Int) (p : Nat) : Prop := ∀ j, p.testBit j = decide (j < l.length ∧ 0 < nth l j)

theorem Bits.lt {l : List Int} {p : Nat} (h : Bits l p) : p < 2 ^ l.length := by
  apply Nat.lt_pow_two_of_testBit
  intro i hi
  rw [h i]; simp; omega

theorem nth_app_lt {l : List Int} {x : Int} {j : Nat} (h : j < l.length) : nth (l ++ [x]) j = nth l j := by
  simp [nth, List.getElem?_append_left h]

theorem nth_app_eq {l : List Int} {x : Int} : nth (l ++ [x]) l.length = x := by simp [nth]

theorem Bits.no {l : List Int} {p : Nat} (h : Bits l p) {x : Int} (hx : ¬ 0 < x) : Bits (l ++ [x]) p := by
  intro j
  rw [h j]
  rcases Nat.lt_trichotomy j l.length with hj | rfl | hj
  · rw [nth_app_lt hj]
    have : j < (l ++ [x]).length := by simp; omega
    simp [hj]; omega
  · rw [nth_app_eq]; simp [hx]
  · have h2 : ¬ j < l.length := by omega
    simp [h2]; omega

/-- 2 for what is greater, 1 for the same -/
def vs (x y : Int) : Int := if y < x then 2 else if y = x then 1 else 0

/-- with the other signs -/
def negL (xs : List Int) : List Int := xs.map (- ·)

theorem negL_length (xs : List Int) : (negL xs).length = xs.length := by simp [negL]

def Up (l : List Int) : Prop := l.Pairwise (· ≤ ·)

theorem Up.le {l : List Int} (h : Up l) {i j : Nat} (hij : i ≤ j) (hj : j < l.length) : nth l i ≤ nth l j := by
  rcases Nat.lt_or_ge i j with h1 | h1
  · rw [nth_of (by omega), nth_of hj]
    exact List.pairwise_iff_getElem.1 h i j (by omega) hj h1
  · have : i = j := by omega
    subst this; exact Int.le_refl _

def sumN (f : Nat → Nat) : Nat → Nat
  | 0 => 0
  | n + 1 => sumN f n + f n

structure F4 where
  a : Int
  b : Int
  c : Int
  d : Int

abbrev F4.v (g : F4) : AV := .agg [.int .i64 g.a, .int .i64 g.b, .int .i64 g.c, .int .i64 g.d]

abbrev F4.ok (g : F4) : Prop := (0 ≤ g.a ∧ g.a ≤ 5) ∧ (-1 ≤ g.b ∧ (g.b ≤ 5 ∨ g.b = 9)) ∧ (0 ≤ g.c ∧ g.c ≤ 5) ∧ (0 ≤ g.d ∧ g.d ≤ 8)

theorem sub_refl : ∀ S : Sig, Sub S S
  | [] => .nil
  | c :: S => .cons .head (sub_refl S)

abbrev cel (i : Nat) (v : AV) : Ch := ⟨.cell, .ptr i 0, 1, 1, [v]⟩

theorem sub_drop {c : Ch} {S S' : Sig} (h : Sub S S') : Sub (c :: S) S' := by
  induction h generalizing c with
  | nil => exact .nil
  | cons h h' ih => exact .cons (.tail h) ih

/-- a slice of one value, a slice of none -/
theorem stp_bslv {A : Heap} {X : List Nat} {E : List (Nat × AV)} {S : Sig} {x : MX} {z u : AV} (hx : evE E x = some u) (h1 : u.cells = [u]) (h2 : u.one = true) : Stp A X E S (.bsl 1 1 [z] [(0, x)]) (New fun v => ⟨.rw, v, 1, 1, [u]⟩ :: S) := by
  refine ⟨?_⟩
  intro τ H m nid hE hS hm
  have hs := Heap.lt_new H nid (some ⟨true, [u]⟩)
  refine ⟨.slice nid 0 1 none 1, _, H.new nid (some ⟨true, [u]⟩), nid + 1, rfl, ?_, ?_, by omega, Nat.le_refl _, Heap.size_le_new _ _ _⟩
  · simp only [mstep, List.map_cons, List.map_nil, ev_of hE hx]
    have e : fillL (zrep [z] (1 * 1)) [(0 * 1, 1, u)] = some [u] := by simp [fillL, zrep, h1, h2, List.range_succ]
    rw [e]
  · refine hS.add ?_ (by omega) hs ⟨?_, rfl, .inr ⟨nid, rfl, .inl (by have := hS.am; omega), by simp [Heap.get_new]⟩⟩ ?_
    · intro id hid; rw [Heap.get_new, if_neg (by omega)]
    · intro k hk; simp only [AV.bid, Option.some.injEq] at hk; omega
    · intro k hk; simp only [AV.bid, Option.some.injEq] at hk; omega

theorem Bd.set {b y : Int} {xs : List Int} {i : Nat} (h : Bd b xs) (hy : -b ≤ y ∧ y ≤ b) : Bd b (xs.set i y) := by
  intro x hx
  rcases List.mem_or_eq_of_mem_set hx with hx | rfl
  · exact h x hx
  · exact hy

structure P2 where
  a : Int
  b : Int

abbrev P2.v (g : P2) : AV := .tuple [.int .i64 g.a, .int .i64 g.b]

abbrev P2.lev (g : P2) : Prop := (0 ≤ g.a ∧ g.a ≤ 102) ∧ 0 ≤ g.b ∧ g.b ≤ 101

structure N4 where
  n : Int
  k : Int
  u : Int
  v : Int

abbrev N4.v' (g : N4) : AV := .tuple [.int .i64 g.n, .int .i64 g.k, .int .i64 g.u, .int .i64 g.v]

abbrev N4.ok (g : N4) : Prop := (0 ≤ g.n ∧ g.n ≤ 11) ∧ (-1 ≤ g.k ∧ g.k ≤ 11) ∧ (0 ≤ g.u ∧ g.u ≤ 14) ∧ (0 ≤ g.v ∧ g.v ≤ 13)

structure N3 where
  n : Int
  a : Int
  b : Int

abbrev N3.v (g : N3) : AV := .tuple [.int .i64 g.n, .int .i64 g.a, .int .i64 g.b]

abbrev N3.ok (g : N3) : Prop := (0 ≤ g.n ∧ g.n ≤ 11) ∧ (0 ≤ g.a ∧ g.a ≤ 102) ∧ 0 ≤ g.b ∧ g.b ≤ 101

structure N5 where
  n : Int
  k : Int
  v : Int
  a : Int
  b : Int

abbrev N5.v' (g : N5) : AV := .tuple [.int .i64 g.n, .int .i64 g.k, .int .i64 g.v, .int .i64 g.a, .int .i64 g.b]

abbrev N5.ok (g : N5) : Prop := (0 ≤ g.n ∧ g.n ≤ 11) ∧ (-1 ≤ g.k ∧ g.k ≤ 12) ∧ (0 ≤ g.v ∧ g.v ≤ 12) ∧ (0 ≤ g.a ∧ g.a ≤ 102) ∧ 0 ≤ g.b ∧ g.b ≤ 101

def tabZ (n : Nat) (f : Nat → Int) : List Int := (List.range n).map f

theorem tabZ_len (n : Nat) (f : Nat → Int) : (tabZ n f).length = n := by simp [tabZ]

abbrev OddsOk (xs : List Int) : Prop := (∀ i, i < xs.length → 0 ≤ nth xs i ∧ nth xs i ≤ 1000) ∧ 1 ≤ xs.length ∧ xs.length ≤ 6

/-- the k-th stands ahead of the i-th -/
def ahd (xs : List Int) (i k : Nat) : Prop := nth xs k < nth xs i ∨ (nth xs k = nth xs i ∧ k < i)

instance (xs : List Int) (i k : Nat) : Decidable (ahd xs i k) := by unfold ahd; exact inferInstance

def plT (xs : List Int) (i : Nat) : Nat → Nat := sumN fun k => if ahd xs i k then 1 else 0

/-- how many stand ahead -/
def plN (xs : List Int) (i : Nat) : Nat := plT xs i xs.length

/-- all at once -/
def taL (xs : List Int) : List Int := tabZ xs.length fun i => min (nth xs i * (xs.length : Int)) 1000

def taX (xs : List Int) : List Int := if OddsOk xs then taL xs else []

/-- times how many there are less those ahead -/
def stV (xs : List Int) (k : Nat) : Int := nth xs k * ((xs.length : Int) - (plN xs k : Nat))

def dnT (xs : List Int) (i : Nat) : Nat → Int
  | 0 => 0
  | k + 1 => if plN xs k ≤ plN xs i then max (dnT xs i k) (stV xs k) else dnT xs i k

def dnL (xs : List Int) : List Int := tabZ xs.length fun i => min (dnT xs i xs.length) 1000

def dnX (xs : List Int) : List Int := if OddsOk xs then dnL xs else []

def upT (xs : List Int) (i : Nat) : Nat → Int
  | 0 => 1000
  | k + 1 => if plN xs i ≤ plN xs k then min (upT xs i k) (stV xs k) else upT xs i k

def upL (xs : List Int) : List Int := tabZ xs.length fun i => upT xs i xs.length

def upX (xs : List Int) : List Int := if OddsOk xs then upL xs else []

def shV (xs : List Int) (k : Nat) : Int := (nth xs k * (xs.length : Int) + (plN xs k : Nat)) / ((plN xs k : Nat) + 1)

def fsT (xs : List Int) (i : Nat) : Nat → Int
  | 0 => 1000
  | k + 1 => if plN xs i ≤ plN xs k then min (fsT xs i k) (shV xs k) else fsT xs i k

def fsL (xs : List Int) : List Int := tabZ xs.length fun i => fsT xs i xs.length

def fsX (xs : List Int) : List Int := if OddsOk xs then fsL xs else []

structure GK5 where
  u : AV
  xs : List Int
  lev : Int
  kd : List UInt8

abbrev GK5.v (g : GK5) : AV := .tuple [g.u, .int .i64 g.lev, .str g.kd]

def keyZ (xs : List Int) (i : Int) : Int := nth xs i.toNat

def bef (K : Int → Int) (a b : Int) : Prop := K a < K b ∨ (K a = K b ∧ a < b)

def idxL (n : Nat) : List Int := tabZ n fun i => (i : Int)

theorem idxL_len (n : Nat) : (idxL n).length = n := tabZ_len _ _

def BySize (xs : List Int) (n : Nat) (ys : List Int) : Prop := ys.Perm (idxL n) ∧ ys.Pairwise (bef (keyZ xs))

theorem BySize.len {xs : List Int} {n : Nat} {ys : List Int} (h : BySize xs n ys) : ys.length = n := by rw [h.1.length_eq, idxL_len]

inductive Way | all | down | up | share

def Way.val : Way → Int → Int → Int → Int
  | .all, x, n, _ => x * n
  | .down, x, n, p => x * (n - p)
  | .up, x, n, p => x * (n - p)
  | .share, x, n, p => (x * n + p) / (p + 1)

def Way.out : Way → List Int → List Int
  | .all => taX
  | .down => dnX
  | .up => upX
  | .share => fsX

theorem nth_ex {l : List Int} {v : Int} (h : v ∈ l) : ∃ m, m < l.length ∧ nth l m = v := by
  obtain ⟨m, h1, h2⟩ := List.getElem_of_mem h
  exact ⟨m, h1, by rw [nth_of h1]; exact h2⟩

def DrOk (p : List Int × List Int) (B : Nat) : Prop := p.2.length = p.1.length ∧ p.1.length ≤ B ∧ ∀ x ∈ p.2, 0 ≤ x ∧ x ≤ (B : Int)

theorem DrOk.mono {p : List Int × List Int} {B C : Nat} (h : DrOk p B) (hc : B ≤ C) : DrOk p C := ⟨h.1, by have := h.2.1; omega, fun x hx => by have := h.2.2 x hx; omega⟩

def FD (q : Rat) (D B : Int) : Prop := 0 < D ∧ ∃ k : Int, q * (D : Rat) = (k : Rat) ∧ -B ≤ k ∧ k ≤ B

theorem FD.add {a b : Rat} {D A B : Int} (h : FD a D A) (h' : FD b D B) : FD (a + b) D (A + B) := by
  obtain ⟨hD, k, h1, h2, h3⟩ := h
  obtain ⟨_, l, h4, h5, h6⟩ := h'
  exact ⟨hD, k + l, by rw [Rat.intCast_add, ← h1, ← h4]; grind, by omega, by omega⟩

theorem FD.neg {a : Rat} {D A : Int} (h : FD a D A) : FD (-a) D A := by
  obtain ⟨hD, k, h1, h2, h3⟩ := h
  exact ⟨hD, -k, by rw [Rat.intCast_neg, ← h1]; grind, by omega, by omega⟩

theorem FD.sub {a b : Rat} {D A B : Int} (h : FD a D A) (h' : FD b D B) : FD (a - b) D (A + B) := by
  have := h.add h'.neg
  rwa [← Rat.sub_eq_add_neg] at this

theorem FD.int {n B : Int} (h : -B ≤ n ∧ n ≤ B) : FD (n : Rat) 1 B := ⟨by omega, n, by simp, h.1, h.2⟩

theorem FD.mono {a : Rat} {D A B : Int} (h : FD a D A) (hb : A ≤ B) : FD a D B := by
  obtain ⟨hD, k, h1, h2, h3⟩ := h
  exact ⟨hD, k, h1, by omega, by omega⟩

def frV (q : Rat) : AV := .agg [.int .i64 q.num, .int .i64 (q.den : Int)]

def PtsT (xs ys : List Int) (n : Nat) : Prop := ∀ i, i < n → i < ys.length ∧ (-12 ≤ nth xs i ∧ nth xs i ≤ 12) ∧ (-12 ≤ nth ys i ∧ nth ys i ≤ 12)

def Pts (xs ys : List Int) : Prop := PtsT xs ys xs.length ∧ xs.length = ys.length ∧ xs.length ≤ 7

def Wide (xs : List Int) : Prop := ∃ i, 1 ≤ i ∧ i < xs.length ∧ nth xs i ≠ nth xs 0

def Cloud (xs ys : List Int) : Prop := Pts xs ys ∧ Wide xs

noncomputable instance (xs ys : List Int) : Decidable (Pts xs ys) := Classical.propDecidable _

noncomputable instance (xs : List Int) : Decidable (Wide xs) := Classical.propDecidable _

noncomputable instance (xs ys : List Int) : Decidable (Cloud xs ys) := Classical.propDecidable _

theorem PtsT.succ {xs ys : List Int} {i : Nat} (h : PtsT xs ys i) (h1 : i < ys.length) (h2 : -12 ≤ nth xs i ∧ nth xs i ≤ 12) (h3 : -12 ≤ nth ys i ∧ nth ys i ≤ 12) : PtsT xs ys (i + 1) := by
  intro k hk
  rcases Nat.lt_or_ge k i with h4 | h4
  · exact h k h4
  · rw [show k = i by omega]; exact ⟨h1, h2, h3⟩

def DifT (xs : List Int) (n : Nat) : Prop := ∀ i, i < n → ∀ k, k < i → nth xs i ≠ nth xs k

def Dif (xs : List Int) : Prop := DifT xs xs.length

noncomputable instance (xs : List Int) : Decidable (Dif xs) := Classical.propDecidable _

def CvOk (xs ys : List Int) : Prop := (Pts xs ys ∧ (1 ≤ (xs.length : Int) ∧ (xs.length : Int) ≤ 5)) ∧ Dif xs

noncomputable instance (xs ys : List Int) : Decidable (CvOk xs ys) := Classical.propDecidable _

def nthA {α : Type} (d : α) (L : List α) (i : Nat) : α := L.getD i d

theorem nthA_of {α : Type} {d : α} {L : List α} {i : Nat} (h : i < L.length) : nthA d L i = L[i] := by
  unfold nthA
  rw [List.getD_eq_getElem?_getD, List.getElem?_eq_getElem h]; rfl

def PtsM (xs ys : List Int) (m : Nat) : Prop := (xs.length = ys.length ∧ 1 ≤ xs.length ∧ xs.length ≤ m) ∧ PtsT xs ys xs.length

noncomputable instance (xs ys : List Int) (m : Nat) : Decidable (PtsM xs ys m) := Classical.propDecidable _

def mnT (xs : List Int) : Nat → Int
  | 0 => nth xs 0
  | i + 1 => min (mnT xs i) (nth xs (i + 1))

def mxT (xs : List Int) : Nat → Int
  | 0 => nth xs 0
  | i + 1 => max (mxT xs i) (nth xs (i + 1))

theorem slicesMin_ok {H : Heap} {a : AV} {xs : List Int} (ha : Ints H a xs) (h0 : 1 ≤ xs.length) (hl : xs.length ≤ 1000000000) :
    ACalls Try.prog fn_slices_Min_ints [a] H fun r H' => r = .int .i64 (mnT xs (xs.length - 1)) ∧ H' = H := by
  refine ACalls.val ?_ rfl
  refine code_slices_Min_ints.go [.roI a xs.length xs] ⟨⟨rfl, ha⟩, trivial⟩ (by simp) ?_
  unfold mc_slices_Min_ints
  (repeat (first | refine gst (hk := ?_) | (show GO _ _ _ _ _ (⟨some _, none, _⟩ :: _) _; first | refine go_op (hk := ?_) | (refine go_nw (hk := ?_); intro u; try simp only [llc, lln, lna, lza]) | (refine go_np (hk := ?_); intro id)) | (show GO _ _ _ _ _ (⟨none, none, _⟩ :: _) _; refine go_st (hk := ?_)) | (show GO _ _ _ _ _ (⟨_, some _, _⟩ :: _) _; first | refine go_in (hk := ?_) | refine go_out (hk := ?_) | refine go_void (hk := ?_)) | (show GK _ _ _ _ (blockK _ _ _); refine gk_past rfl ?_) | (show GC _ _ _ _ _ (.cond _ _ _) _; first | refine gc_yes (h1 := ?_) | refine gc_no (h1 := ?_))))
  refine gc_cond rfl (fun h => by omega) (fun h => ?_)
  (repeat (first | refine gst (hk := ?_) | (show GO _ _ _ _ _ (⟨some _, none, _⟩ :: _) _; first | refine go_op (hk := ?_) | (refine go_nw (hk := ?_); intro u; try simp only [llc, lln, lna, lza]) | (refine go_np (hk := ?_); intro id)) | (show GO _ _ _ _ _ (⟨none, none, _⟩ :: _) _; refine go_st (hk := ?_)) | (show GO _ _ _ _ _ (⟨_, some _, _⟩ :: _) _; first | refine go_in (hk := ?_) | refine go_out (hk := ?_) | refine go_void (hk := ?_)) | (show GK _ _ _ _ (blockK _ _ _); refine gk_past rfl ?_) | (show GC _ _ _ _ _ (.cond _ _ _) _; first | refine gc_yes (h1 := ?_) | refine gc_no (h1 := ?_))))
  refine gc_up (xs.length - 1) (fun i => [(0, a), (3, .int .i64 (mnT xs i)), (4, .int .i64 ((i + 1 : Nat) : Int))]) (fun _ => [.roI a xs.length xs]) (hb := ?_)
  intro i hi I ν μ hk
  (repeat (first | refine gst (hk := ?_) | (show GO _ _ _ _ _ (⟨some _, none, _⟩ :: _) _; first | refine go_op (hk := ?_) | (refine go_nw (hk := ?_); intro u; try simp only [llc, lln, lna, lza]) | (refine go_np (hk := ?_); intro id)) | (show GO _ _ _ _ _ (⟨none, none, _⟩ :: _) _; refine go_st (hk := ?_)) | (show GO _ _ _ _ _ (⟨_, some _, _⟩ :: _) _; first | refine go_in (hk := ?_) | refine go_out (hk := ?_) | refine go_void (hk := ?_)) | (show GK _ _ _ _ (blockK _ _ _); refine gk_past rfl ?_) | (show GC _ _ _ _ _ (.cond _ _ _) _; first | refine gc_yes (h1 := ?_) | refine gc_no (h1 := ?_))))
  refine gc_cond rfl (fun h => ?_) (fun h => ?_)
  · (repeat (first | refine gst (hk := ?_) | (show GO _ _ _ _ _ (⟨some _, none, _⟩ :: _) _; first | refine go_op (hk := ?_) | (refine go_nw (hk := ?_); intro u; try simp only [llc, lln, lna, lza]) | (refine go_np (hk := ?_); intro id)) | (show GO _ _ _ _ _ (⟨none, none, _⟩ :: _) _; refine go_st (hk := ?_)) | (show GO _ _ _ _ _ (⟨_, some _, _⟩ :: _) _; first | refine go_in (hk := ?_) | refine go_out (hk := ?_) | refine go_void (hk := ?_)) | (show GK _ _ _ _ (blockK _ _ _); refine gk_past rfl ?_) | (show GC _ _ _ _ _ (.cond _ _ _) _; first | refine gc_yes (h1 := ?_) | refine gc_no (h1 := ?_))))
    exact gk_next (hk (by omega))
  · have : i = xs.length - 1 := by omega
    subst this
    (repeat (first | refine gst (hk := ?_) | (show GO _ _ _ _ _ (⟨some _, none, _⟩ :: _) _; first | refine go_op (hk := ?_) | (refine go_nw (hk := ?_); intro u; try simp only [llc, lln, lna, lza]) | (refine go_np (hk := ?_); intro id)) | (show GO _ _ _ _ _ (⟨none, none, _⟩ :: _) _; refine go_st (hk := ?_)) | (show GO _ _ _ _ _ (⟨_, some _, _⟩ :: _) _; first | refine go_in (hk := ?_) | refine go_out (hk := ?_) | refine go_void (hk := ?_)) | (show GK _ _ _ _ (blockK _ _ _); refine gk_past rfl ?_) | (show GC _ _ _ _ _ (.cond _ _ _) _; first | refine gc_yes (h1 := ?_) | refine gc_no (h1 := ?_))))
    exact gk_ret rfl fun H' hH => ⟨rfl, hH.leE⟩

theorem slicesMax_ok {H : Heap} {a : AV} {xs : List Int} (ha : Ints H a xs) (h0 : 1 ≤ xs.length) (hl : xs.length ≤ 1000000000) :
    ACalls Try.prog fn_slices_Max_ints [a] H fun r H' => r = .int .i64 (mxT xs (xs.length - 1)) ∧ H' = H := by
  refine ACalls.val ?_ rfl
  refine code_slices_Max_ints.go [.roI a xs.length xs] ⟨⟨rfl, ha⟩, trivial⟩ (by simp) ?_
  unfold mc_slices_Max_ints
  (repeat (first | refine gst (hk := ?_) | (show GO _ _ _ _ _ (⟨some _, none, _⟩ :: _) _; first | refine go_op (hk := ?_) | (refine go_nw (hk := ?_); intro u; try simp only [llc, lln, lna, lza]) | (refine go_np (hk := ?_); intro id)) | (show GO _ _ _ _ _ (⟨none, none, _⟩ :: _) _; refine go_st (hk := ?_)) | (show GO _ _ _ _ _ (⟨_, some _, _⟩ :: _) _; first | refine go_in (hk := ?_) | refine go_out (hk := ?_) | refine go_void (hk := ?_)) | (show GK _ _ _ _ (blockK _ _ _); refine gk_past rfl ?_) | (show GC _ _ _ _ _ (.cond _ _ _) _; first | refine gc_yes (h1 := ?_) | refine gc_no (h1 := ?_))))
  refine gc_cond rfl (fun h => by omega) (fun h => ?_)
  (repeat (first | refine gst (hk := ?_) | (show GO _ _ _ _ _ (⟨some _, none, _⟩ :: _) _; first | refine go_op (hk := ?_) | (refine go_nw (hk := ?_); intro u; try simp only [llc, lln, lna, lza]) | (refine go_np (hk := ?_); intro id)) | (show GO _ _ _ _ _ (⟨none, none, _⟩ :: _) _; refine go_st (hk := ?_)) | (show GO _ _ _ _ _ (⟨_, some _, _⟩ :: _) _; first | refine go_in (hk := ?_) | refine go_out (hk := ?_) | refine go_void (hk := ?_)) | (show GK _ _ _ _ (blockK _ _ _); refine gk_past rfl ?_) | (show GC _ _ _ _ _ (.cond _ _ _) _; first | refine gc_yes (h1 := ?_) | refine gc_no (h1 := ?_))))
  refine gc_up (xs.length - 1) (fun i => [(0, a), (3, .int .i64 (mxT xs i)), (4, .int .i64 ((i + 1 : Nat) : Int))]) (fun _ => [.roI a xs.length xs]) (hb := ?_)
  intro i hi I ν μ hk
  (repeat (first | refine gst (hk := ?_) | (show GO _ _ _ _ _ (⟨some _, none, _⟩ :: _) _; first | refine go_op (hk := ?_) | (refine go_nw (hk := ?_); intro u; try simp only [llc, lln, lna, lza]) | (refine go_np (hk := ?_); intro id)) | (show GO _ _ _ _ _ (⟨none, none, _⟩ :: _) _; refine go_st (hk := ?_)) | (show GO _ _ _ _ _ (⟨_, some _, _⟩ :: _) _; first | refine go_in (hk := ?_) | refine go_out (hk := ?_) | refine go_void (hk := ?_)) | (show GK _ _ _ _ (blockK _ _ _); refine gk_past rfl ?_) | (show GC _ _ _ _ _ (.cond _ _ _) _; first | refine gc_yes (h1 := ?_) | refine gc_no (h1 := ?_))))
  refine gc_cond rfl (fun h => ?_) (fun h => ?_)
  · (repeat (first | refine gst (hk := ?_) | (show GO _ _ _ _ _ (⟨some _, none, _⟩ :: _) _; first | refine go_op (hk := ?_) | (refine go_nw (hk := ?_); intro u; try simp only [llc, lln, lna, lza]) | (refine go_np (hk := ?_); intro id)) | (show GO _ _ _ _ _ (⟨none, none, _⟩ :: _) _; refine go_st (hk := ?_)) | (show GO _ _ _ _ _ (⟨_, some _, _⟩ :: _) _; first | refine go_in (hk := ?_) | refine go_out (hk := ?_) | refine go_void (hk := ?_)) | (show GK _ _ _ _ (blockK _ _ _); refine gk_past rfl ?_) | (show GC _ _ _ _ _ (.cond _ _ _) _; first | refine gc_yes (h1 := ?_) | refine gc_no (h1 := ?_))))
    exact gk_next (hk (by omega))
  · have : i = xs.length - 1 := by omega
    subst this
    (repeat (first | refine gst (hk := ?_) | (show GO _ _ _ _ _ (⟨some _, none, _⟩ :: _) _; first | refine go_op (hk := ?_) | (refine go_nw (hk := ?_); intro u; try simp only [llc, lln, lna, lza]) | (refine go_np (hk := ?_); intro id)) | (show GO _ _ _ _ _ (⟨none, none, _⟩ :: _) _; refine go_st (hk := ?_)) | (show GO _ _ _ _ _ (⟨_, some _, _⟩ :: _) _; first | refine go_in (hk := ?_) | refine go_out (hk := ?_) | refine go_void (hk := ?_)) | (show GK _ _ _ _ (blockK _ _ _); refine gk_past rfl ?_) | (show GC _ _ _ _ _ (.cond _ _ _) _; first | refine gc_yes (h1 := ?_) | refine gc_no (h1 := ?_))))
    exact gk_ret rfl fun H' hH => ⟨rfl, hH.leE⟩

theorem Cloud.m {xs ys : List Int} (h : Cloud xs ys) : PtsM xs ys 7 := by
  obtain ⟨⟨h1, h2, h3⟩, i, h4, h5, _⟩ := h
  exact ⟨⟨h2, by omega, h3⟩, h1⟩

theorem go_yieldE {P : Program} {A : Heap} {X : List Nat} {E : List (Nat × AV)} {S : Sig} {K : St → Prop} {r : List MI} {d : Nat} {γ : Type} {id : Nat} {fv : MX} {args : List MX} {xs : List AV} {S2 : γ → Sig} (hv : evE E fv = some (.yld id)) (ha : evsE E args = some xs)
    (h : ∀ H, SOk A X S H.size H → AYield P id xs H fun t H' => t = true ∧ ∃ g, SOk A X (S2 g) H'.size H') (hk : ∀ g, GO P A X ((d, .bool true) :: E) (S2 g) r K) : GO P A X E S (⟨some d, none, .callv fv args⟩ :: r) K := by
  refine ⟨fun s hf => ?_⟩
  rw [mops_cons]
  simp only [mone, mexec, ev_of hf.env hv]
  have := h s.H hf.ok
  rw [← evs_of hf.env ha] at this
  refine ⟨_, this, ?_⟩
  rintro b H' ⟨rfl, g, hS⟩
  exact (hk g).g _ ⟨look_cons hf.env d _, hS⟩

theorem gc_rfuncE {P : Program} {A : Heap} {X : List Nat} {E : List (Nat × AV)} {S : Sig} {Q : Exit → St → Prop} {ι γ : Type} {g : MX} {ps : List Nat} {a b : MC} {f : FuncId} {caps : List AV} (T : ι → γ → Sig) (Rd : ι → ι → List AV → Prop) (i0 iN : ι) (g0 : γ)
    (hg : evE E g = some (.func f caps)) (hc : Callable P f) (hS : Sub S (T i0 g0))
    (hit : ∀ (A' : Heap) (id : Nat) (H : Heap), (∀ i j xs, Rd i j xs → ∀ (F : Sig) (z : γ) H', SOk A' X (T i z ++ F) H'.size H' → AYield P id xs H' fun t H'' => t = true ∧ ∃ z', SOk A' X (T j z' ++ F) H''.size H'') → SOk A' X (T i0 g0) H.size H → ACalls P f (.yld id :: caps) H fun _ H' => ∃ z, SOk A' X (T iN z) H'.size H')
    (hb : ∀ i j xs, Rd i j xs → xs.length = ps.length ∧ ∀ (F : Sig) (z : γ) (ob1 ob2 : Nat → Option OB) (Q1 Q2 : Exit → St → Prop), (∀ E' S', GC P (A.obs ob2) X E' S' b Q2 → GK (A.obs ob1) X E' S' (Q1 .normal)) → (∀ E' z', GK (A.obs ob2) X E' (T j z' ++ F) (Q2 .normal)) → GC P (A.obs ob1) X (setE E ps xs) (T i z ++ F) a Q1)
    (hk : ∀ z, GK A X E (T iN z) (Q .normal)) : GC P A X E S (.rfunc g ps a b) Q := by
  refine ⟨fun s hf => ?_⟩
  simp only [mwp, mrfunc, ev_of hf.env hg]
  refine ⟨hc, fun o ho hnone hround => ?_⟩
  obtain ⟨id, hid⟩ : ∃ id, id = s.H.size := ⟨_, rfl⟩
  rw [← hid] at hround hnone ⊢
  obtain ⟨ob1, hob1⟩ : ∃ ob1 : Nat → Option OB, ob1 = fun i => if i = id then some (lst o .ready none) else A.ob i := ⟨_, rfl⟩
  obtain ⟨ob2, hob2⟩ : ∃ ob2 : Nat → Option OB, ob2 = fun i => if i = id then some (lst o .busy none) else A.ob i := ⟨_, rfl⟩
  have e1 : ob1 id = some (lst o .ready none) := by rw [hob1]; simp
  have e2 : ob2 id = some (lst o .busy none) := by rw [hob2]; simp
  have e12 : (fun i => if i = id then some (lst o .busy none) else ob1 i) = ob2 := by
    rw [hob1, hob2]; funext i; by_cases h : i = id <;> simp [h]
  have e21 : (fun i => if i = id then some (lst o .ready none) else ob2 i) = ob1 := by
    rw [hob1, hob2]; funext i; by_cases h : i = id <;> simp [h]
  refine ⟨fun _ H' => ∃ z, SOk (A.obs ob1) X (T iN z) H'.size H', hit (A.obs ob1) id _ ?_ ?_, ?_⟩
  · intro i j xs hY F z H' hH'
    obtain ⟨hlen, hbody⟩ := hb i j xs hY
    have hHob : H'.ob = ob1 := hH'.le.ob
    refine hround xs H' _ hlen (by rw [hHob]; exact e1) ?_
    refine (hbody F z ob1 ob2 _ (roundK id o fun t H'' => t = true ∧ ∃ z', SOk (A.obs ob1) X (T j z' ++ F) H''.size H'') ?_ ?_).g ⟨setp s.τ ps xs, H'⟩ ⟨setE_ok ps xs E s.τ hf.env, hH'⟩
    · intro E' S' hgc
      refine ⟨fun s' hf' => ?_⟩
      have h1 : s'.H.ob = ob1 := hf'.ok.le.ob
      refine ⟨by rw [h1]; exact e1, hgc.g _ ⟨hf'.env, ?_⟩⟩
      have h2 := hf'.ok.obs ob2 (Nat.le_refl _) hf'.ok.mh
      have h3 : s'.H.seto id (some (lst o .busy none)) = ⟨s'.H.size, s'.H.get, ob2⟩ := by simp only [Heap.seto, h1, e12]
      rw [h3]; exact h2
    · intro E' z'
      refine ⟨fun s' hf' => ?_⟩
      have h1 : s'.H.ob = ob2 := hf'.ok.le.ob
      refine ⟨by rw [h1]; exact e2, rfl, z', ?_⟩
      have h2 := hf'.ok.obs ob1 (Nat.le_refl _) hf'.ok.mh
      have h3 : s'.H.seto id (some (lst o .ready none)) = ⟨s'.H.size, s'.H.get, ob1⟩ := by simp only [Heap.seto, h1, e21]
      rw [h3]; exact h2
  · have h0 := (hf.ok.sub hS).obs ob1 (Nat.le_succ _) (Nat.le_refl _)
    have h3 : s.H.newo (lst o .ready none) = ⟨s.H.size + 1, s.H.get, ob1⟩ := by
      simp only [Heap.newo, hob1, hf.ok.le.ob, hid]
    rw [h3]; exact h0
  · rintro r' H' ⟨z, hH'⟩
    have h1 : H'.ob = ob1 := hH'.le.ob
    refine ⟨.ready, none, by rw [h1]; exact e1, by simp, ?_⟩
    refine (hk z).g _ ⟨hf.env, ?_⟩
    have h2 := hH'.obs A.ob (Nat.le_refl _) hH'.mh
    have h3 : H'.seto id none = ⟨H'.size, H'.get, A.ob⟩ := by
      have hAob : A.ob id = none := by rw [← hf.ok.le.ob]; exact hnone
      simp only [Heap.seto, h1, hob1]
      congr 1
      funext i; by_cases h : i = id
      · subst h; simp [hAob]
      · simp [h]
    rw [h3]; exact h2
/- side by side: all two of the points with different xs -/

theorem gc_nilK {P : Program} {A : Heap} {X : List Nat} {E : List (Nat × AV)} {S : Sig} {c : MC} {Q : Exit → St → Prop} (es : Nat) (h : GC P A X E (⟨.rw, .nilSlice, es, 0, []⟩ :: S) c Q) : GC P A X E S c Q := ⟨fun s hf => h.g s ⟨hf.env, hf.ok.nil es⟩⟩

theorem Pts.neg {xs ys : List Int} (h : Pts xs ys) : Pts xs (ys.map (- ·)) := by
  obtain ⟨h1, h2, h3⟩ := h
  refine ⟨fun i hi => ?_, by simp [h2], h3⟩
  have h4 := h1 i hi
  rw [getD_map _ (by omega)]
  exact ⟨by simp; omega, h4.2.1, by omega⟩

theorem Cloud.neg {xs ys : List Int} (h : Cloud xs ys) : Cloud xs (ys.map (- ·)) := ⟨h.1.neg, h.2⟩
/- slopes of what is turned, of what is negated -/

theorem nth_take {xs : List Int} {m i : Nat} (h : i < m) : nth (xs.take m) i = nth xs i := by
  unfold nth
  simp [List.getD, List.getElem?_take_of_lt h]

theorem Pts.take {xs ys : List Int} (h : Pts xs ys) (m : Nat) : Pts (xs.take m) (ys.take m) := by
  obtain ⟨h1, h2, h3⟩ := h
  refine ⟨fun i hi => ?_, by simp [h2], by simp; omega⟩
  rw [List.length_take] at hi
  have h4 := h1 i (by omega)
  rw [nth_take (by omega), nth_take (by omega), List.length_take]
  exact ⟨by omega, h4.2⟩

theorem CvOk.take {xs ys : List Int} (h : CvOk xs ys) {m : Nat} (h1 : 1 ≤ m) (hm : m ≤ xs.length) : CvOk (xs.take m) (ys.take m) := by
  have h5 := h.1.2
  have hl : (xs.take m).length = m := by rw [List.length_take]; omega
  refine ⟨⟨h.1.1.take m, by rw [hl]; omega⟩, fun i hi k hk => ?_⟩
  rw [hl] at hi
  rw [nth_take (by omega), nth_take (by omega)]
  exact h.2 i (by omega) k hk

def mnA (S W : Nat → Rat) (i e : Nat) : Rat := (S e - S i) / (W e - W i)

def AscW (W : Nat → Rat) (n : Nat) : Prop := ∀ i, i < n → W i < W (i + 1)

theorem AscW.lt {W : Nat → Rat} {n : Nat} (h : AscW W n) {i : Nat} : ∀ {j}, i < j → j ≤ n → W i < W j
  | 0, h1, _ => absurd h1 (Nat.not_lt_zero _)
  | j + 1, h1, h2 => by
    have := h j h2
    rcases Nat.lt_or_ge i j with h3 | h3
    · have := h.lt (j := j) h3 (by omega); grind
    · rw [show i = j by omega]; exact this

theorem AscW.le {W : Nat → Rat} {n : Nat} (h : AscW W n) {i j : Nat} (h1 : i ≤ j) (h2 : j ≤ n) : W i ≤ W j := by
  rcases Nat.lt_or_ge i j with h3 | h3
  · exact Rat.le_of_lt (h.lt h3 h2)
  · rw [show i = j by omega]; exact Rat.le_refl

theorem AscW.sub {W : Nat → Rat} {n m : Nat} (h : AscW W n) (hm : m ≤ n) : AscW W m := fun i hi => h i (by omega)

theorem mulR_le {a b d : Rat} (hd : 0 ≤ d) (h : a ≤ b) : a * d ≤ b * d := Rat.mul_le_mul_of_nonneg_right h hd

/-- the line with slope c through s and e lies below all sums up to n; j is between s and e -/
def Sup (S W : Nat → Rat) (n j : Nat) (c : Rat) : Prop := ∃ s e, s ≤ j ∧ j < e ∧ e ≤ n ∧ S e - S s = c * (W e - W s) ∧ ∀ t, t ≤ n → c * (W t - W s) ≤ S t - S s

theorem Sup.uniq {S W : Nat → Rat} {n j : Nat} {c d : Rat} (hW : AscW W n) (h : Sup S W n j c) (h' : Sup S W n j d) : c = d := by
  have one : ∀ {c d : Rat}, Sup S W n j c → Sup S W n j d → ¬ c < d := by
    rintro c d ⟨s, e, h1, h2, h3, h4, h5⟩ ⟨s', e', g1, g2, g3, g4, g5⟩ hlt
    -- on e: S e is on the line of slope c through s; from s' on the line of slope d
    have a1 := h5 s' (by omega)
    have a2 := g5 e h3
    have a3 := hW.lt (i := s') (j := e) (by omega) h3
    have a4 := mulR_le (d := W e - W s') (by grind) (Rat.le_of_lt hlt)
    have a5 : c * (W e - W s') ≠ d * (W e - W s') := fun h => by
      have : (d - c) * (W e - W s') = 0 := by grind
      have h6 : 0 < (d - c) * (W e - W s') := Rat.mul_pos (by grind) (by grind)
      grind
    grind
  exact Rat.le_antisymm (Rat.not_lt.1 (one h' h)) (Rat.not_lt.1 (one h h'))

/- stacks of blocks: the last one's start ahead, e the end -/

def Bks (S W : Nat → Rat) : List Nat → Nat → Prop
  | [], e => e = 0
  | a :: r, e => a < e ∧ (∀ t, a ≤ t → t ≤ e → mnA S W a e * (W t - W a) ≤ S t - S a) ∧ Bks S W r a

theorem Bks.len {S W : Nat → Rat} : ∀ {r : List Nat} {e}, Bks S W r e → r.length ≤ e
  | [], _, h => by simp
  | a :: r, e, h => by
    have := Bks.len h.2.2
    have := h.1
    simp only [List.length_cons]; omega

def Loads (xs ws : List Int) : Prop := (∀ w ∈ ws, 1 ≤ w ∧ w ≤ 5) ∧ Bd 30 xs ∧ xs.length = ws.length ∧ 1 ≤ xs.length ∧ xs.length ≤ 8

noncomputable instance (xs ws : List Int) : Decidable (Loads xs ws) := Classical.propDecidable _

theorem Loads.w {xs ws : List Int} (h : Loads xs ws) {i : Nat} (hi : i < xs.length) : 1 ≤ nth ws i ∧ nth ws i ≤ 5 := by
  have h1 : i < ws.length := by have := h.2.2.1; omega
  rw [nth_of h1]; exact h.1 _ (List.getElem_mem h1)

theorem Loads.x {xs ws : List Int} (h : Loads xs ws) (i : Nat) : -30 ≤ nth xs i ∧ nth xs i ≤ 30 := h.2.1.nth (by omega) i

def Dv (q : Rat) (D : Int) : Prop := 0 < D ∧ ∃ k : Int, q * (D : Rat) = (k : Rat)

theorem Dv.add {p q : Rat} {D : Int} (h : Dv p D) (h' : Dv q D) : Dv (p + q) D := by
  obtain ⟨h1, k, h2⟩ := h
  obtain ⟨_, l, h3⟩ := h'
  exact ⟨h1, k + l, by rw [Rat.intCast_add, ← h2, ← h3]; grind⟩

theorem Dv.int (n : Int) : Dv (n : Rat) 1 := ⟨by omega, n, by simp⟩

theorem Loads.take {xs ws : List Int} (h : Loads xs ws) {k : Nat} (h1 : 1 ≤ k) (h2 : k ≤ xs.length) : Loads (xs.take k) (ws.take k) := by
  obtain ⟨g1, g2, g3, g4, g5⟩ := h
  exact ⟨fun w hw => g1 w (List.mem_of_mem_take hw), fun x hx => g2 x (List.mem_of_mem_take hx), by rw [List.length_take, List.length_take]; omega, by rw [List.length_take]; omega, by rw [List.length_take]; omega⟩

def Steps (xs : List Int) : Prop := Bd 30 xs ∧ 1 ≤ xs.length ∧ xs.length ≤ 8

noncomputable instance (xs : List Int) : Decidable (Steps xs) := Classical.propDecidable _

theorem Steps.x {xs : List Int} (h : Steps xs) (j : Nat) : -30 ≤ nth xs j ∧ nth xs j ≤ 30 := h.1.nth (by omega) j

theorem validHeights_ok {H : Heap} {a : AV} {xs : List Int} (ha : Ints H a xs) (hl : xs.length ≤ 1000000000) :
    ACalls Try.prog fn_impl_validHeights [a] H fun r H' => r = .bool (decide (Steps xs)) ∧ H' = H := by
  refine ACalls.val ?_ rfl
  refine code_impl_validHeights.go [.roI a xs.length xs] ⟨⟨rfl, ha⟩, trivial⟩ (by simp) ?_
  unfold mc_impl_validHeights
  have no : (Steps xs → False) → decide (Steps xs) = false := fun h => decide_eq_false h
  (repeat (first | refine gst (hk := ?_) | (show GO _ _ _ _ _ (⟨some _, none, _⟩ :: _) _; first | refine go_op (hk := ?_) | (refine go_nw (hk := ?_); intro u; try simp only [llc, lln, lna, lza]) | (refine go_np (hk := ?_); intro id)) | (show GO _ _ _ _ _ (⟨none, none, _⟩ :: _) _; refine go_st (hk := ?_)) | (show GO _ _ _ _ _ (⟨_, some _, _⟩ :: _) _; first | refine go_in (hk := ?_) | refine go_out (hk := ?_) | refine go_void (hk := ?_)) | (show GK _ _ _ _ (blockK _ _ _); refine gk_past rfl ?_) | (show GC _ _ _ _ _ (.cond _ _ _) _; first | refine gc_yes (h1 := ?_) | refine gc_no (h1 := ?_))))
  refine go_split 8 rfl (fun h1 => ?_) (fun h1 => ?_)
  · (repeat (first | refine gst (hk := ?_) | (show GO _ _ _ _ _ (⟨some _, none, _⟩ :: _) _; first | refine go_op (hk := ?_) | (refine go_nw (hk := ?_); intro u; try simp only [llc, lln, lna, lza]) | (refine go_np (hk := ?_); intro id)) | (show GO _ _ _ _ _ (⟨none, none, _⟩ :: _) _; refine go_st (hk := ?_)) | (show GO _ _ _ _ _ (⟨_, some _, _⟩ :: _) _; first | refine go_in (hk := ?_) | refine go_out (hk := ?_) | refine go_void (hk := ?_)) | (show GK _ _ _ _ (blockK _ _ _); refine gk_past rfl ?_) | (show GC _ _ _ _ _ (.cond _ _ _) _; first | refine gc_yes (h1 := ?_) | refine gc_no (h1 := ?_))))
    exact gk_ret rfl fun H' hH => ⟨by rw [no fun h => by have := h.2.1; omega]; rfl, hH.leE⟩
  (repeat (first | refine gst (hk := ?_) | (show GO _ _ _ _ _ (⟨some _, none, _⟩ :: _) _; first | refine go_op (hk := ?_) | (refine go_nw (hk := ?_); intro u; try simp only [llc, lln, lna, lza]) | (refine go_np (hk := ?_); intro id)) | (show GO _ _ _ _ _ (⟨none, none, _⟩ :: _) _; refine go_st (hk := ?_)) | (show GO _ _ _ _ _ (⟨_, some _, _⟩ :: _) _; first | refine go_in (hk := ?_) | refine go_out (hk := ?_) | refine go_void (hk := ?_)) | (show GK _ _ _ _ (blockK _ _ _); refine gk_past rfl ?_) | (show GC _ _ _ _ _ (.cond _ _ _) _; first | refine gc_yes (h1 := ?_) | refine gc_no (h1 := ?_))))
  refine gc_cond rfl (fun h2 => ?_) (fun h2 => ?_)
  · (repeat (first | refine gst (hk := ?_) | (show GO _ _ _ _ _ (⟨some _, none, _⟩ :: _) _; first | refine go_op (hk := ?_) | (refine go_nw (hk := ?_); intro u; try simp only [llc, lln, lna, lza]) | (refine go_np (hk := ?_); intro id)) | (show GO _ _ _ _ _ (⟨none, none, _⟩ :: _) _; refine go_st (hk := ?_)) | (show GO _ _ _ _ _ (⟨_, some _, _⟩ :: _) _; first | refine go_in (hk := ?_) | refine go_out (hk := ?_) | refine go_void (hk := ?_)) | (show GK _ _ _ _ (blockK _ _ _); refine gk_past rfl ?_) | (show GC _ _ _ _ _ (.cond _ _ _) _; first | refine gc_yes (h1 := ?_) | refine gc_no (h1 := ?_))))
    exact gk_ret rfl fun H' hH => ⟨by rw [no fun h => by have := h.2.2; omega]; rfl, hH.leE⟩
  (repeat (first | refine gst (hk := ?_) | (show GO _ _ _ _ _ (⟨some _, none, _⟩ :: _) _; first | refine go_op (hk := ?_) | (refine go_nw (hk := ?_); intro u; try simp only [llc, lln, lna, lza]) | (refine go_np (hk := ?_); intro id)) | (show GO _ _ _ _ _ (⟨none, none, _⟩ :: _) _; refine go_st (hk := ?_)) | (show GO _ _ _ _ _ (⟨_, some _, _⟩ :: _) _; first | refine go_in (hk := ?_) | refine go_out (hk := ?_) | refine go_void (hk := ?_)) | (show GK _ _ _ _ (blockK _ _ _); refine gk_past rfl ?_) | (show GC _ _ _ _ _ (.cond _ _ _) _; first | refine gc_yes (h1 := ?_) | refine gc_no (h1 := ?_))))
  refine gc_loop (γ := Nat) (fun i => [(13, a), (14, .int .i64 (xs.length : Int)), (15, .int .i64 (i : Int))]) (fun _ => [.roI a xs.length xs]) (fun i => i ≤ xs.length ∧ ∀ j, j < i → -30 ≤ nth xs j ∧ nth xs j ≤ 30) (fun i => xs.length - i) 0 ⟨Nat.zero_le _, fun k hk => by omega⟩ (hb := ?_)
  rintro i ⟨hi, hp⟩ I ν m hk
  (repeat (first | refine gst (hk := ?_) | (show GO _ _ _ _ _ (⟨some _, none, _⟩ :: _) _; first | refine go_op (hk := ?_) | (refine go_nw (hk := ?_); intro u; try simp only [llc, lln, lna, lza]) | (refine go_np (hk := ?_); intro id)) | (show GO _ _ _ _ _ (⟨none, none, _⟩ :: _) _; refine go_st (hk := ?_)) | (show GO _ _ _ _ _ (⟨_, some _, _⟩ :: _) _; first | refine go_in (hk := ?_) | refine go_out (hk := ?_) | refine go_void (hk := ?_)) | (show GK _ _ _ _ (blockK _ _ _); refine gk_past rfl ?_) | (show GC _ _ _ _ _ (.cond _ _ _) _; first | refine gc_yes (h1 := ?_) | refine gc_no (h1 := ?_))))
  refine gc_cond rfl (fun h => ?_) (fun h => ?_)
  · (repeat (first | refine gst (hk := ?_) | (show GO _ _ _ _ _ (⟨some _, none, _⟩ :: _) _; first | refine go_op (hk := ?_) | (refine go_nw (hk := ?_); intro u; try simp only [llc, lln, lna, lza]) | (refine go_np (hk := ?_); intro id)) | (show GO _ _ _ _ _ (⟨none, none, _⟩ :: _) _; refine go_st (hk := ?_)) | (show GO _ _ _ _ _ (⟨_, some _, _⟩ :: _) _; first | refine go_in (hk := ?_) | refine go_out (hk := ?_) | refine go_void (hk := ?_)) | (show GK _ _ _ _ (blockK _ _ _); refine gk_past rfl ?_) | (show GC _ _ _ _ _ (.cond _ _ _) _; first | refine gc_yes (h1 := ?_) | refine gc_no (h1 := ?_))))
    refine go_split 21 rfl (fun h3 => ?_) (fun h3 => ?_)
    · (repeat (first | refine gst (hk := ?_) | (show GO _ _ _ _ _ (⟨some _, none, _⟩ :: _) _; first | refine go_op (hk := ?_) | (refine go_nw (hk := ?_); intro u; try simp only [llc, lln, lna, lza]) | (refine go_np (hk := ?_); intro id)) | (show GO _ _ _ _ _ (⟨none, none, _⟩ :: _) _; refine go_st (hk := ?_)) | (show GO _ _ _ _ _ (⟨_, some _, _⟩ :: _) _; first | refine go_in (hk := ?_) | refine go_out (hk := ?_) | refine go_void (hk := ?_)) | (show GK _ _ _ _ (blockK _ _ _); refine gk_past rfl ?_) | (show GC _ _ _ _ _ (.cond _ _ _) _; first | refine gc_yes (h1 := ?_) | refine gc_no (h1 := ?_))))
      exact gk_ret rfl fun H' hH => ⟨by rw [no fun hL => by have := hL.x i; omega]; rfl, hH.leE⟩
    (repeat (first | refine gst (hk := ?_) | (show GO _ _ _ _ _ (⟨some _, none, _⟩ :: _) _; first | refine go_op (hk := ?_) | (refine go_nw (hk := ?_); intro u; try simp only [llc, lln, lna, lza]) | (refine go_np (hk := ?_); intro id)) | (show GO _ _ _ _ _ (⟨none, none, _⟩ :: _) _; refine go_st (hk := ?_)) | (show GO _ _ _ _ _ (⟨_, some _, _⟩ :: _) _; first | refine go_in (hk := ?_) | refine go_out (hk := ?_) | refine go_void (hk := ?_)) | (show GK _ _ _ _ (blockK _ _ _); refine gk_past rfl ?_) | (show GC _ _ _ _ _ (.cond _ _ _) _; first | refine gc_yes (h1 := ?_) | refine gc_no (h1 := ?_))))
    refine gc_cond rfl (fun h4 => ?_) (fun h4 => ?_)
    · (repeat (first | refine gst (hk := ?_) | (show GO _ _ _ _ _ (⟨some _, none, _⟩ :: _) _; first | refine go_op (hk := ?_) | (refine go_nw (hk := ?_); intro u; try simp only [llc, lln, lna, lza]) | (refine go_np (hk := ?_); intro id)) | (show GO _ _ _ _ _ (⟨none, none, _⟩ :: _) _; refine go_st (hk := ?_)) | (show GO _ _ _ _ _ (⟨_, some _, _⟩ :: _) _; first | refine go_in (hk := ?_) | refine go_out (hk := ?_) | refine go_void (hk := ?_)) | (show GK _ _ _ _ (blockK _ _ _); refine gk_past rfl ?_) | (show GC _ _ _ _ _ (.cond _ _ _) _; first | refine gc_yes (h1 := ?_) | refine gc_no (h1 := ?_))))
      exact gk_ret rfl fun H' hH => ⟨by rw [no fun hL => by have := hL.x i; omega]; rfl, hH.leE⟩
    · (repeat (first | refine gst (hk := ?_) | (show GO _ _ _ _ _ (⟨some _, none, _⟩ :: _) _; first | refine go_op (hk := ?_) | (refine go_nw (hk := ?_); intro u; try simp only [llc, lln, lna, lza]) | (refine go_np (hk := ?_); intro id)) | (show GO _ _ _ _ _ (⟨none, none, _⟩ :: _) _; refine go_st (hk := ?_)) | (show GO _ _ _ _ _ (⟨_, some _, _⟩ :: _) _; first | refine go_in (hk := ?_) | refine go_out (hk := ?_) | refine go_void (hk := ?_)) | (show GK _ _ _ _ (blockK _ _ _); refine gk_past rfl ?_) | (show GC _ _ _ _ _ (.cond _ _ _) _; first | refine gc_yes (h1 := ?_) | refine gc_no (h1 := ?_))))
      refine gk_next (hk (i + 1) ⟨by omega, fun j hj => ?_⟩ (by omega))
      rcases Nat.lt_or_ge j i with h5 | h5
      · exact hp j h5
      · rw [show j = i by omega]; omega
  · obtain rfl : i = xs.length := by omega
    have h6 : Bd 30 xs := fun x hx => by
      obtain ⟨m, hm, rfl⟩ := nth_ex hx
      exact hp m hm
    (repeat (first | refine gst (hk := ?_) | (show GO _ _ _ _ _ (⟨some _, none, _⟩ :: _) _; first | refine go_op (hk := ?_) | (refine go_nw (hk := ?_); intro u; try simp only [llc, lln, lna, lza]) | (refine go_np (hk := ?_); intro id)) | (show GO _ _ _ _ _ (⟨none, none, _⟩ :: _) _; refine go_st (hk := ?_)) | (show GO _ _ _ _ _ (⟨_, some _, _⟩ :: _) _; first | refine go_in (hk := ?_) | refine go_out (hk := ?_) | refine go_void (hk := ?_)) | (show GK _ _ _ _ (blockK _ _ _); refine gk_past rfl ?_) | (show GC _ _ _ _ _ (.cond _ _ _) _; first | refine gc_yes (h1 := ?_) | refine gc_no (h1 := ?_))))
    exact gk_ret rfl fun H' hH => ⟨by
      have : Steps xs := ⟨h6, by omega, by omega⟩
      simp [tupleOf, this], hH.leE⟩

def OneC (a : AV) : Prop := a.cells = [a] ∧ a.one = true

theorem one_slice {H : Heap} {v : AV} {es n : Nat} {cs : List AV} (h : Vals H v es n cs) : OneC v := by
  have hs := h.sl
  cases v <;> simp [AV.isSlice] at hs <;> exact ⟨rfl, rfl⟩

abbrev nthV (vs : List AV) (i : Nat) : AV := nthA .any vs i

theorem stp_ldV {A : Heap} {X : List Nat} {E : List (Nat × AV)} {S : Sig} {p : MX} {v : AV} {n i : Nat} {vs : List AV} (hp : evE E p = some (v.elem i)) (hh : Has S v 1 n vs) (hn : n = vs.length) (hi : i < vs.length) : Stp A X E S (.ld p 1 false) (Is (nthV vs i) S) :=
  stp_ldn (ds := [nthV vs i]) hp hh (by omega) (by
    rw [Nat.mul_one, show nthV vs i = vs[i] from nthA_of hi, List.drop_eq_getElem_cons hi]; rfl) rfl

structure BK where
  id : Nat
  k : Kd
  v : AV
  s : Nat
  e : Nat

def BKok (b : BK) : Prop := b.k = .rw ∨ (b.k = .ro ∧ ∃ id off, b.v = .slice id off (b.e - b.s) (some (b.e - b.s)) 2)

theorem BKok.kd {b : BK} (h : BKok b) : b.k = .rw ∨ b.k = .ro := h.imp (fun h => h) fun h => h.1

structure Cst {α : Type} (op : α → α → α) (le : α → α → Prop) : Prop where
  assoc : ∀ a b c, op (op a b) c = op a (op b c)
  comm : ∀ a b, op a b = op b a
  mono : ∀ {a b} c, le a b → le (op a c) (op b c)
  refl : ∀ a, le a a
  trans : ∀ {a b c}, le a b → le b c → le a c
  anti : ∀ {a b}, le a b → le b a → a = b

inductive Cuts {α : Type} (op : α → α → α) (c : Nat → Nat → α) : Nat → Nat → Nat → α → Prop
  | one {i k : Nat} (h : i < k) : Cuts op c 1 i k (c i k)
  | snoc {p i m k : Nat} {v : α} (h : Cuts op c p i m v) (hk : m < k) : Cuts op c (p + 1) i k (op v (c m k))

theorem Cuts.lt {α : Type} {op : α → α → α} {c : Nat → Nat → α} {p i k : Nat} {v : α} (h : Cuts op c p i k v) : i < k ∧ 1 ≤ p ∧ i + p ≤ k := by
  induction h with
  | one h => omega
  | snoc h hk ih => omega

theorem Cuts.cons {α : Type} {op : α → α → α} {le : α → α → Prop} (hc : Cst op le) {c : Nat → Nat → α} {p i m k : Nat} {v : α} (hi : i < m) (h : Cuts op c p m k v) : Cuts op c (p + 1) i k (op (c i m) v) := by
  induction h with
  | one h => exact .snoc (.one hi) h
  | snoc h hk ih => rw [← hc.assoc]; exact .snoc (ih hi) hk

theorem Cuts.uncons {α : Type} {op : α → α → α} {le : α → α → Prop} (hc : Cst op le) {c : Nat → Nat → α} {p i k : Nat} {v : α} (h : Cuts op c p i k v) : (p = 1 ∧ v = c i k) ∨ ∃ q m w, p = q + 1 ∧ i < m ∧ Cuts op c q m k w ∧ v = op (c i m) w := by
  induction h with
  | one h => exact .inl ⟨rfl, rfl⟩
  | @snoc p i m k v h hk ih =>
    refine .inr ?_
    rcases ih with ⟨rfl, rfl⟩ | ⟨q, m', w, rfl, h1, h2, rfl⟩
    · exact ⟨1, m, _, rfl, h.lt.1, .one hk, rfl⟩
    · exact ⟨q + 1, m', _, rfl, h1, .snoc h2 hk, hc.assoc _ _ _⟩

def LeastC {α : Type} (op : α → α → α) (le : α → α → Prop) (c : Nat → Nat → α) (P i k : Nat) (v : α) : Prop := (∃ q, q ≤ P ∧ Cuts op c q i k v) ∧ ∀ q w, q ≤ P → Cuts op c q i k w → le v w

theorem LeastC.uniq {α : Type} {op : α → α → α} {le : α → α → Prop} (hc : Cst op le) {c : Nat → Nat → α} {P i k : Nat} {v w : α} (h : LeastC op le c P i k v) (h' : LeastC op le c P i k w) : v = w := by
  obtain ⟨⟨q, h1, h2⟩, h3⟩ := h
  obtain ⟨⟨q', h1', h2'⟩, h3'⟩ := h'
  exact hc.anti (h3 _ _ h1' h2') (h3' _ _ h1 h2)

theorem leastC_one {α : Type} {op : α → α → α} {le : α → α → Prop} (hc : Cst op le) {c : Nat → Nat → α} {i k : Nat} (h : i < k) : LeastC op le c 1 i k (c i k) := by
  refine ⟨⟨1, Nat.le_refl _, .one h⟩, fun q w hq hw => ?_⟩
  cases hw with
  | one h => exact hc.refl _
  | snoc h hk => have := h.lt; omega

/-- one piece more, ahead -/
theorem leastC_cons {α : Type} {op : α → α → α} {le : α → α → Prop} (hc : Cst op le) {c : Nat → Nat → α} {P i k : Nat} {v : α} {f : Nat → α} (hik : i < k) (hf : ∀ m, i < m → m < k → LeastC op le c P m k (f m)) (hv : v = c i k ∨ ∃ m, i < m ∧ m < k ∧ v = op (c i m) (f m)) (h1 : le v (c i k)) (h2 : ∀ m, i < m → m < k → le v (op (c i m) (f m))) : LeastC op le c (P + 1) i k v := by
  refine ⟨?_, fun q w hq hw => ?_⟩
  · rcases hv with rfl | ⟨m, m1, m2, rfl⟩
    · exact ⟨1, by omega, .one hik⟩
    · obtain ⟨⟨q, g1, g2⟩, _⟩ := hf m m1 m2
      exact ⟨q + 1, by omega, .cons hc m1 g2⟩
  · rcases hw.uncons hc with ⟨rfl, rfl⟩ | ⟨q', m, w', rfl, g1, g2, rfl⟩
    · exact h1
    · have hl := g2.lt
      refine hc.trans (h2 m g1 hl.1) ?_
      have := hc.mono (c i m) ((hf m g1 hl.1).2 q' w' (by omega) g2)
      rw [hc.comm _ (c i m), hc.comm w' (c i m)] at this
      exact this

theorem LeastC.congr {α : Type} {op : α → α → α} {le : α → α → Prop} {c d : Nat → Nat → α} {n P : Nat} (hd : ∀ i k, i < k → k ≤ n → d i k = c i k) {v : α} (h : LeastC op le d P 0 n v) : LeastC op le c P 0 n v := by
  have key : ∀ {c d : Nat → Nat → α}, (∀ i k, i < k → k ≤ n → d i k = c i k) → ∀ {p i k : Nat} {v : α}, Cuts op d p i k v → k ≤ n → Cuts op c p i k v := by
    intro c d hd p i k v h
    induction h with
    | one h => intro hk; rw [hd _ _ h hk]; exact .one h
    | snoc h hmk ih => intro hk; rw [hd _ _ hmk hk]; exact .snoc (ih (by omega)) hmk
  obtain ⟨⟨q, h1, h2⟩, h3⟩ := h
  exact ⟨⟨q, h1, key hd h2 (Nat.le_refl _)⟩, fun q w hq hw => h3 q w hq (key (fun i k h1 h2 => (hd i k h1 h2).symm) hw (Nat.le_refl _))⟩

theorem cstM : Cst (α := Int) max (· ≤ ·) where
  assoc a b c := by omega
  comm a b := by omega
  mono c h := by omega
  refl a := Int.le_refl a
  trans h1 h2 := Int.le_trans h1 h2
  anti h1 h2 := Int.le_antisymm h1 h2

def winL (xs : List Int) (i k : Nat) : List Int := (xs.drop i).take (k - i)

theorem win_nth {xs : List Int} {i k j : Nat} (hk : k ≤ xs.length) (hj : j < k - i) : nth (winL xs i k) j = nth xs (i + j) := by
  unfold winL
  have h1 : j < ((xs.drop i).take (k - i)).length := by rw [List.length_take, List.length_drop]; omega
  rw [nth_of h1, nth_of (by omega), List.getElem_take, List.getElem_drop]

def loW (xs : List Int) (i : Nat) : Nat → Int
  | 0 => nth xs i
  | d + 1 => min (loW xs i d) (nth xs (i + d + 1))

def hiW (xs : List Int) (i : Nat) : Nat → Int
  | 0 => nth xs i
  | d + 1 => max (hiW xs i d) (nth xs (i + d + 1))

theorem loW_is (xs : List Int) (i : Nat) : ∀ d, (∀ j, j ≤ d → loW xs i d ≤ nth xs (i + j)) ∧ ∃ j, j ≤ d ∧ loW xs i d = nth xs (i + j)
  | 0 => ⟨fun j hj => by rw [show j = 0 by omega]; exact Int.le_refl _, 0, Nat.le_refl _, rfl⟩
  | d + 1 => by
    obtain ⟨h1, j0, h2, h3⟩ := loW_is xs i d
    rw [loW]
    refine ⟨fun j hj => ?_, ?_⟩
    · rcases Nat.lt_or_ge d j with g | g
      · obtain rfl : j = d + 1 := by omega
        rw [← Nat.add_assoc]; omega
      · have := h1 j g; omega
    · rcases Int.le_total (loW xs i d) (nth xs (i + d + 1)) with g | g
      · exact ⟨j0, by omega, by omega⟩
      · exact ⟨d + 1, Nat.le_refl _, by rw [← Nat.add_assoc]; omega⟩

theorem hiW_is (xs : List Int) (i : Nat) : ∀ d, (∀ j, j ≤ d → nth xs (i + j) ≤ hiW xs i d) ∧ ∃ j, j ≤ d ∧ hiW xs i d = nth xs (i + j)
  | 0 => ⟨fun j hj => by rw [show j = 0 by omega]; exact Int.le_refl _, 0, Nat.le_refl _, rfl⟩
  | d + 1 => by
    obtain ⟨h1, j0, h2, h3⟩ := hiW_is xs i d
    rw [hiW]
    refine ⟨fun j hj => ?_, ?_⟩
    · rcases Nat.lt_or_ge d j with g | g
      · obtain rfl : j = d + 1 := by omega
        rw [← Nat.add_assoc]; omega
      · have := h1 j g; omega
    · rcases Int.le_total (nth xs (i + d + 1)) (hiW xs i d) with g | g
      · exact ⟨j0, by omega, by omega⟩
      · exact ⟨d + 1, Nat.le_refl _, by rw [← Nat.add_assoc]; omega⟩

def rgI (xs : List Int) (i k : Nat) : Int := hiW xs i (k - 1 - i) - loW xs i (k - 1 - i)

theorem rg_le {xs : List Int} {i k : Nat} {r : Int} (h : i < k) : rgI xs i k ≤ r ↔ ∀ a b, i ≤ a → a < k → i ≤ b → b < k → nth xs a - nth xs b ≤ r := by
  obtain ⟨l1, jl, l2, l3⟩ := loW_is xs i (k - 1 - i)
  obtain ⟨h1, jh, h2, h3⟩ := hiW_is xs i (k - 1 - i)
  unfold rgI
  constructor
  · intro hr a b a1 a2 b1 b2
    have e1 := h1 (a - i) (by omega)
    have e2 := l1 (b - i) (by omega)
    rw [show i + (a - i) = a by omega] at e1
    rw [show i + (b - i) = b by omega] at e2
    omega
  · intro ha
    have := ha (i + jh) (i + jl) (by omega) (by omega) (by omega) (by omega)
    omega

theorem rg_nonneg {xs : List Int} {i k : Nat} (h : i < k) : 0 ≤ rgI xs i k := by
  have := (rg_le (xs := xs) h).1 (Int.le_refl _) i i (Nat.le_refl _) h (Nat.le_refl _) h
  omega

theorem room_cuts {xs : List Int} (hb : ∀ j, -30 ≤ nth xs j ∧ nth xs j ≤ 30) {q i k : Nat} {v : Int} (h : Cuts max (rgI xs) q i k v) : 0 ≤ v ∧ v ≤ 60 := by
  have one : ∀ i k, i < k → 0 ≤ rgI xs i k ∧ rgI xs i k ≤ 60 := fun i k h => ⟨rg_nonneg h, by
    rw [rg_le h]
    intro a b _ _ _ _
    have := hb a
    have := hb b
    omega⟩
  induction h with
  | one h => exact one _ _ h
  | snoc h hk ih => have := one _ _ hk; omega

structure SelOk {α : Type} (le : α → α → Prop) (sel : α → α → α) : Prop where
  or : ∀ a b, sel a b = a ∨ sel a b = b
  l : ∀ a b, le (sel a b) a
  r : ∀ a b, le (sel a b) b

theorem selI_ok : SelOk (α := Int) (· ≤ ·) min where
  or a b := by omega
  l a b := by omega
  r a b := by omega

def seqm {α : Type} (sel : α → α → α) (v0 : α) (g : Nat → α) : Nat → α
  | 0 => v0
  | m + 1 => sel (seqm sel v0 g m) (g (m + 1))

theorem seqm_is {α : Type} {op : α → α → α} {le : α → α → Prop} (hc : Cst op le) {sel : α → α → α} (hs : SelOk le sel) (v0 : α) (g : Nat → α) : ∀ m, (seqm sel v0 g m = v0 ∨ ∃ j, 1 ≤ j ∧ j ≤ m ∧ seqm sel v0 g m = g j) ∧ le (seqm sel v0 g m) v0 ∧ ∀ j, 1 ≤ j → j ≤ m → le (seqm sel v0 g m) (g j)
  | 0 => ⟨.inl rfl, hc.refl _, fun j h1 h2 => by omega⟩
  | m + 1 => by
    obtain ⟨h1, h2, h3⟩ := seqm_is hc hs v0 g m
    rw [seqm]
    refine ⟨?_, hc.trans (hs.l _ _) h2, fun j j1 j2 => ?_⟩
    · rcases hs.or (seqm sel v0 g m) (g (m + 1)) with e | e
      · rw [e]
        rcases h1 with h1 | ⟨j, j1, j2, j3⟩
        · exact .inl h1
        · exact .inr ⟨j, j1, by omega, j3⟩
      · exact .inr ⟨m + 1, by omega, Nat.le_refl _, e⟩
    · rcases Nat.lt_or_ge m j with g1 | g1
      · obtain rfl : j = m + 1 := by omega
        exact hs.r _ _
      · exact hc.trans (hs.l _ _) (h3 j j1 g1)

/-- by trying: P + 1 pieces from i on -/
def rcF {α : Type} (op : α → α → α) (sel : α → α → α) (c : Nat → Nat → α) (n : Nat) : Nat → Nat → α
  | 0, i => c i n
  | P + 1, i => seqm sel (c i n) (fun j => op (c i (i + j)) (rcF op sel c n P (i + j))) (n - 1 - i)

theorem rc_least {α : Type} {op : α → α → α} {le : α → α → Prop} (hc : Cst op le) {sel : α → α → α} (hs : SelOk le sel) (c : Nat → Nat → α) (n : Nat) : ∀ P i, i < n → LeastC op le c (P + 1) i n (rcF op sel c n P i)
  | 0, i, hi => leastC_one hc hi
  | P + 1, i, hi => by
    obtain ⟨h1, h2, h3⟩ := seqm_is hc hs (c i n) (fun j => op (c i (i + j)) (rcF op sel c n P (i + j))) (n - 1 - i)
    refine leastC_cons hc hi (f := rcF op sel c n P) (fun m m1 m2 => rc_least hc hs c n P m m2) ?_ h2 fun m m1 m2 => ?_
    · rcases h1 with h1 | ⟨j, j1, j2, j3⟩
      · exact .inl h1
      · exact .inr ⟨i + j, by omega, by omega, j3⟩
    · have := h3 (m - i) (by omega) (by omega)
      rwa [show i + (m - i) = m by omega] at this

theorem Steps.neg {xs : List Int} (h : Steps xs) : Steps (negL xs) := ⟨fun x hx => by
  unfold negL at hx
  obtain ⟨y, hy, rfl⟩ := List.mem_map.1 hx
  have := h.1 y hy
  omega, by rw [negL_length]; exact h.2.1, by rw [negL_length]; exact h.2.2⟩

def PsOk (xs : List Int) (p : Int) : Prop := Steps xs ∧ (1 ≤ p ∧ p ≤ 8)

noncomputable instance (xs : List Int) (p : Int) : Decidable (PsOk xs p) := Classical.propDecidable _

def lrV (xs : List Int) (p : Nat) : Int := rcF max min (rgI xs) xs.length (p - 1) 0

theorem lr_least {xs : List Int} (h : Steps xs) {p : Nat} (hp : 1 ≤ p) : LeastC max (· ≤ ·) (rgI xs) p 0 xs.length (lrV xs p) := by
  have := rc_least cstM selI_ok (rgI xs) xs.length (p - 1) 0 h.2.1
  rwa [show p - 1 + 1 = p by omega] at this

theorem specValidSteps_ok {H : Heap} {a : AV} {xs : List Int} (ha : Ints H a xs) (hl : xs.length ≤ 1000000000) :
    ACalls Try.prog fn_spec_validSteps [a] H fun r H' => r = .bool (decide (Steps xs)) ∧ H' = H := by
  refine ACalls.val ?_ rfl
  refine code_spec_validSteps.go [.roI a xs.length xs] ⟨⟨rfl, ha⟩, trivial⟩ (by simp) ?_
  unfold mc_spec_validSteps
  have no : (Steps xs → False) → decide (Steps xs) = false := fun h => decide_eq_false h
  (repeat (first | refine gst (hk := ?_) | (show GO _ _ _ _ _ (⟨some _, none, .call _ _⟩ :: _) _; first | (show GO _ _ _ _ _ (⟨some _, none, .call fn_spec_inRange _⟩ :: _) _; refine go_inRange (hk := ?_); try intro u)) | (show GO _ _ _ _ _ (⟨some _, none, _⟩ :: _) _; first | refine go_op (hk := ?_) | (refine go_nw (hk := ?_); intro u; try simp only [llc, lln, lna, lza]) | (refine go_np (hk := ?_); intro id)) | (show GO _ _ _ _ _ (⟨none, none, _⟩ :: _) _; refine go_st (hk := ?_)) | (show GO _ _ _ _ _ (⟨_, some _, _⟩ :: _) _; first | refine go_in (hk := ?_) | refine go_out (hk := ?_) | refine go_void (hk := ?_)) | (show GK _ _ _ _ (blockK _ _ _); refine gk_past rfl ?_) | (show GC _ _ _ _ _ (.cond _ _ _) _; first | refine gc_yes (h1 := ?_) | refine gc_no (h1 := ?_))))
  refine gc_loop (γ := Nat) (fun i => [(0, a), (3, .int .i64 (i : Int))]) (fun _ => [.roI a xs.length xs]) (fun i => i ≤ xs.length ∧ ∀ j, j < i → -30 ≤ nth xs j ∧ nth xs j ≤ 30) (fun i => xs.length - i) 0 ⟨Nat.zero_le _, fun k hk => by omega⟩ (hb := ?_)
  rintro i ⟨hi, hp⟩ I ν m hk
  (repeat (first | refine gst (hk := ?_) | (show GO _ _ _ _ _ (⟨some _, none, .call _ _⟩ :: _) _; first | (show GO _ _ _ _ _ (⟨some _, none, .call fn_spec_inRange _⟩ :: _) _; refine go_inRange (hk := ?_); try intro u)) | (show GO _ _ _ _ _ (⟨some _, none, _⟩ :: _) _; first | refine go_op (hk := ?_) | (refine go_nw (hk := ?_); intro u; try simp only [llc, lln, lna, lza]) | (refine go_np (hk := ?_); intro id)) | (show GO _ _ _ _ _ (⟨none, none, _⟩ :: _) _; refine go_st (hk := ?_)) | (show GO _ _ _ _ _ (⟨_, some _, _⟩ :: _) _; first | refine go_in (hk := ?_) | refine go_out (hk := ?_) | refine go_void (hk := ?_)) | (show GK _ _ _ _ (blockK _ _ _); refine gk_past rfl ?_) | (show GC _ _ _ _ _ (.cond _ _ _) _; first | refine gc_yes (h1 := ?_) | refine gc_no (h1 := ?_))))
  refine gc_cond rfl (fun h => ?_) (fun h => ?_)
  · (repeat (first | refine gst (hk := ?_) | (show GO _ _ _ _ _ (⟨some _, none, .call _ _⟩ :: _) _; first | (show GO _ _ _ _ _ (⟨some _, none, .call fn_spec_inRange _⟩ :: _) _; refine go_inRange (hk := ?_); try intro u)) | (show GO _ _ _ _ _ (⟨some _, none, _⟩ :: _) _; first | refine go_op (hk := ?_) | (refine go_nw (hk := ?_); intro u; try simp only [llc, lln, lna, lza]) | (refine go_np (hk := ?_); intro id)) | (show GO _ _ _ _ _ (⟨none, none, _⟩ :: _) _; refine go_st (hk := ?_)) | (show GO _ _ _ _ _ (⟨_, some _, _⟩ :: _) _; first | refine go_in (hk := ?_) | refine go_out (hk := ?_) | refine go_void (hk := ?_)) | (show GK _ _ _ _ (blockK _ _ _); refine gk_past rfl ?_) | (show GC _ _ _ _ _ (.cond _ _ _) _; first | refine gc_yes (h1 := ?_) | refine gc_no (h1 := ?_))))
    refine gc_cond rfl (fun h2 => ?_) (fun h2 => ?_)
    · (repeat (first | refine gst (hk := ?_) | (show GO _ _ _ _ _ (⟨some _, none, .call _ _⟩ :: _) _; first | (show GO _ _ _ _ _ (⟨some _, none, .call fn_spec_inRange _⟩ :: _) _; refine go_inRange (hk := ?_); try intro u)) | (show GO _ _ _ _ _ (⟨some _, none, _⟩ :: _) _; first | refine go_op (hk := ?_) | (refine go_nw (hk := ?_); intro u; try simp only [llc, lln, lna, lza]) | (refine go_np (hk := ?_); intro id)) | (show GO _ _ _ _ _ (⟨none, none, _⟩ :: _) _; refine go_st (hk := ?_)) | (show GO _ _ _ _ _ (⟨_, some _, _⟩ :: _) _; first | refine go_in (hk := ?_) | refine go_out (hk := ?_) | refine go_void (hk := ?_)) | (show GK _ _ _ _ (blockK _ _ _); refine gk_past rfl ?_) | (show GC _ _ _ _ _ (.cond _ _ _) _; first | refine gc_yes (h1 := ?_) | refine gc_no (h1 := ?_))))
      exact gk_ret rfl fun H' hH => ⟨by rw [no fun hL => h2 (hL.x i)]; rfl, hH.leE⟩
    · (repeat (first | refine gst (hk := ?_) | (show GO _ _ _ _ _ (⟨some _, none, .call _ _⟩ :: _) _; first | (show GO _ _ _ _ _ (⟨some _, none, .call fn_spec_inRange _⟩ :: _) _; refine go_inRange (hk := ?_); try intro u)) | (show GO _ _ _ _ _ (⟨some _, none, _⟩ :: _) _; first | refine go_op (hk := ?_) | (refine go_nw (hk := ?_); intro u; try simp only [llc, lln, lna, lza]) | (refine go_np (hk := ?_); intro id)) | (show GO _ _ _ _ _ (⟨none, none, _⟩ :: _) _; refine go_st (hk := ?_)) | (show GO _ _ _ _ _ (⟨_, some _, _⟩ :: _) _; first | refine go_in (hk := ?_) | refine go_out (hk := ?_) | refine go_void (hk := ?_)) | (show GK _ _ _ _ (blockK _ _ _); refine gk_past rfl ?_) | (show GC _ _ _ _ _ (.cond _ _ _) _; first | refine gc_yes (h1 := ?_) | refine gc_no (h1 := ?_))))
      refine gk_next (hk (i + 1) ⟨by omega, fun j hj => ?_⟩ (by omega))
      rcases Nat.lt_or_ge j i with h4 | h4
      · exact hp j h4
      · rw [show j = i by omega]; exact Decidable.not_not.1 h2
  · obtain rfl : i = xs.length := by omega
    have h6 : Bd 30 xs := fun x hx => by
      obtain ⟨m, hm, rfl⟩ := nth_ex hx
      exact hp m hm
    (repeat (first | refine gst (hk := ?_) | (show GO _ _ _ _ _ (⟨some _, none, .call _ _⟩ :: _) _; first | (show GO _ _ _ _ _ (⟨some _, none, .call fn_spec_inRange _⟩ :: _) _; refine go_inRange (hk := ?_); try intro u)) | (show GO _ _ _ _ _ (⟨some _, none, _⟩ :: _) _; first | refine go_op (hk := ?_) | (refine go_nw (hk := ?_); intro u; try simp only [llc, lln, lna, lza]) | (refine go_np (hk := ?_); intro id)) | (show GO _ _ _ _ _ (⟨none, none, _⟩ :: _) _; refine go_st (hk := ?_)) | (show GO _ _ _ _ _ (⟨_, some _, _⟩ :: _) _; first | refine go_in (hk := ?_) | refine go_out (hk := ?_) | refine go_void (hk := ?_)) | (show GK _ _ _ _ (blockK _ _ _); refine gk_past rfl ?_) | (show GC _ _ _ _ _ (.cond _ _ _) _; first | refine gc_yes (h1 := ?_) | refine gc_no (h1 := ?_))))
    exact gk_ret rfl fun H' hH => ⟨by
      simp only [tupleOf]; congr 1
      exact decide_eq_decide.2 ⟨fun h7 => ⟨h6, by omega, by omega⟩, fun h7 => ⟨by have := h7.2.1; omega, by have := h7.2.2; omega⟩⟩, hH.leE⟩

theorem win_len2 {xs : List Int} {i k : Nat} (h : k ≤ xs.length) : (winL xs i k).length = k - i := by
  unfold winL; rw [List.length_take, List.length_drop]; omega

/-- the least in the order tried -/
def mnG (g : Nat → Int) : Nat → Int
  | 0 => -1
  | j + 1 => if mnG g j < 0 ∨ g (j + 1) < mnG g j then g (j + 1) else mnG g j

theorem mnG_is {g : Nat → Int} {v0 : Int} : ∀ m, (∀ j, 1 ≤ j → j ≤ m → 0 ≤ g j) → (1 ≤ m → 0 ≤ mnG g m) ∧ seqm min v0 g m = if m = 0 then v0 else min v0 (mnG g m)
  | 0, _ => ⟨fun h => by omega, rfl⟩
  | m + 1, h => by
    obtain ⟨h1, h2⟩ := mnG_is (g := g) (v0 := v0) m fun j g1 g2 => h j g1 (by omega)
    have h0 := h (m + 1) (by omega) (Nat.le_refl _)
    rw [seqm, h2, if_neg (by omega : ¬ m + 1 = 0)]
    simp only [mnG]
    rcases Nat.eq_zero_or_pos m with rfl | hm
    · rw [if_pos rfl, if_pos (.inl (show (-1 : Int) < 0 by decide))]
      exact ⟨fun _ => h0, rfl⟩
    · have := h1 hm
      rw [if_neg (show ¬ m = 0 by omega)]
      by_cases hc : mnG g m < 0 ∨ g (m + 1) < mnG g m
      · rw [if_pos hc]
        exact ⟨fun _ => h0, by omega⟩
      · rw [if_neg hc]
        exact ⟨fun _ => this, by omega⟩

theorem specRoomEnd_ok {H : Heap} {a : AV} {xs : List Int} {p : Int} (ha : Ints H a xs) (hl : xs.length ≤ 1000000000) :
    ACalls Try.prog fn_spec_roomFrom [a, .int .i64 (xs.length : Int), .int .i64 p] H fun r H' => r = .int .i64 0 ∧ H' = H := by
  refine ACalls.val ?_ rfl
  refine code_spec_roomFrom.go [.roI a xs.length xs] ⟨⟨rfl, ha⟩, trivial⟩ (by simp) ?_
  unfold mc_spec_roomFrom
  (repeat (first | refine gst (hk := ?_) | (show GO _ _ _ _ _ (⟨some _, none, _⟩ :: _) _; first | refine go_op (hk := ?_) | (refine go_nw (hk := ?_); intro u; try simp only [llc, lln, lna, lza]) | (refine go_np (hk := ?_); intro id)) | (show GO _ _ _ _ _ (⟨none, none, _⟩ :: _) _; refine go_st (hk := ?_)) | (show GO _ _ _ _ _ (⟨_, some _, _⟩ :: _) _; first | refine go_in (hk := ?_) | refine go_out (hk := ?_) | refine go_void (hk := ?_)) | (show GK _ _ _ _ (blockK _ _ _); refine gk_past rfl ?_) | (show GC _ _ _ _ _ (.cond _ _ _) _; first | refine gc_yes (h1 := ?_) | refine gc_no (h1 := ?_))))
  refine gc_cond rfl (fun h => ?_) (fun h => absurd rfl h)
  (repeat (first | refine gst (hk := ?_) | (show GO _ _ _ _ _ (⟨some _, none, _⟩ :: _) _; first | refine go_op (hk := ?_) | (refine go_nw (hk := ?_); intro u; try simp only [llc, lln, lna, lza]) | (refine go_np (hk := ?_); intro id)) | (show GO _ _ _ _ _ (⟨none, none, _⟩ :: _) _; refine go_st (hk := ?_)) | (show GO _ _ _ _ _ (⟨_, some _, _⟩ :: _) _; first | refine go_in (hk := ?_) | refine go_out (hk := ?_) | refine go_void (hk := ?_)) | (show GK _ _ _ _ (blockK _ _ _); refine gk_past rfl ?_) | (show GC _ _ _ _ _ (.cond _ _ _) _; first | refine gc_yes (h1 := ?_) | refine gc_no (h1 := ?_))))
  exact gk_ret rfl fun H' hH => ⟨rfl, hH.leE⟩

theorem loW_bd {xs : List Int} (h : Steps xs) (i d : Nat) : -30 ≤ loW xs i d ∧ loW xs i d ≤ 30 := by
  obtain ⟨_, j, _, e⟩ := loW_is xs i d
  rw [e]; exact h.x _

theorem hiW_bd {xs : List Int} (h : Steps xs) (i d : Nat) : -30 ≤ hiW xs i d ∧ hiW xs i d ≤ 30 := by
  obtain ⟨_, j, _, e⟩ := hiW_is xs i d
  rw [e]; exact h.x _

theorem Steps.rg_bd {xs : List Int} (h : Steps xs) {i k : Nat} (hk : i < k) : 0 ≤ rgI xs i k ∧ rgI xs i k ≤ 60 := by
  have h1 := rg_nonneg (xs := xs) hk
  have h2 := loW_bd h i (k - 1 - i)
  have h3 := hiW_bd h i (k - 1 - i)
  unfold rgI at *
  omega

theorem Steps.rr_bd {xs : List Int} (h : Steps xs) : ∀ P i, i < xs.length → 0 ≤ rcF max min (rgI xs) xs.length P i ∧ rcF max min (rgI xs) xs.length P i ≤ 60
  | 0, i, hi => h.rg_bd hi
  | P + 1, i, hi => by
    have g1 := h.rg_bd hi
    rw [rcF]
    rcases (seqm_is cstM selI_ok (rgI xs i xs.length) (fun j => max (rgI xs i (i + j)) (rcF max min (rgI xs) xs.length P (i + j))) (xs.length - 1 - i)).1 with e | ⟨j, h1, h2, e⟩
    · rw [e]; exact g1
    · rw [e]
      have g2 := h.rg_bd (show i < i + j by omega)
      have g3 := Steps.rr_bd h P (i + j) (by omega)
      omega

/-- a piece of j numbers, and the rest -/
def caM (xs : List Int) (P i j : Nat) : Int := max (rgI xs i (i + j)) (rcF max min (rgI xs) xs.length P (i + j))

theorem Steps.caM_bd {xs : List Int} (h : Steps xs) {P i j : Nat} (h1 : 1 ≤ j) (h2 : i + j < xs.length) : 0 ≤ caM xs P i j ∧ caM xs P i j ≤ 60 := by
  have g2 := h.rg_bd (show i < i + j by omega)
  have g3 := h.rr_bd P (i + j) h2
  unfold caM
  omega

/-- the least room after d more ends were tried -/
def rtB (xs : List Int) (P i d : Nat) : Int :=
  if d ≤ xs.length - 1 - i then (match P with
    | 0 => -1
    | P' + 1 => mnG (caM xs P' i) d)
  else rcF max min (rgI xs) xs.length P i

theorem rtB_z {xs : List Int} {i d : Nat} (h : d ≤ xs.length - 1 - i) : rtB xs 0 i d = -1 := if_pos h

theorem rtB_s {xs : List Int} {P i d : Nat} (h : d ≤ xs.length - 1 - i) : rtB xs (P + 1) i d = mnG (caM xs P i) d := if_pos h

theorem rtB_e {xs : List Int} {P i d : Nat} (h : ¬ d ≤ xs.length - 1 - i) : rtB xs P i d = rcF max min (rgI xs) xs.length P i := if_neg h

theorem rtB_last {xs : List Int} (hS : Steps xs) {P i : Nat} (hi : i < xs.length) : rtB xs P i (xs.length - i) = if rtB xs P i (xs.length - 1 - i) < 0 ∨ rgI xs i xs.length < rtB xs P i (xs.length - 1 - i) then rgI xs i xs.length else rtB xs P i (xs.length - 1 - i) := by
  have g1 := hS.rg_bd hi
  rw [rtB_e (by omega)]
  cases P with
  | zero => rw [rtB_z (Nat.le_refl _)]; exact (if_pos (.inl (by decide))).symm
  | succ P =>
    rw [rtB_s (Nat.le_refl _)]
    obtain ⟨h1, h2⟩ := mnG_is (g := caM xs P i) (v0 := rgI xs i xs.length) (xs.length - 1 - i) fun j j1 j2 => (hS.caM_bd j1 (by omega)).1
    rw [show rcF max min (rgI xs) xs.length (P + 1) i = seqm min (rgI xs i xs.length) (caM xs P i) (xs.length - 1 - i) from rfl, h2]
    rcases Nat.eq_zero_or_pos (xs.length - 1 - i) with h0 | h0
    · rw [h0, if_pos rfl]; exact (if_pos (.inl (show (-1 : Int) < 0 by decide))).symm
    · have := h1 h0
      rw [if_neg (show ¬ xs.length - 1 - i = 0 by omega)]
      generalize mnG (caM xs P i) (xs.length - 1 - i) = z at *
      by_cases hc : z < 0 ∨ rgI xs i xs.length < z
      · rw [if_pos hc]; omega
      · rw [if_neg hc]; omega

theorem rtB_step {xs : List Int} {P i d : Nat} (hd : d < xs.length - 1 - i) : rtB xs (P + 1) i (d + 1) = if rtB xs (P + 1) i d < 0 ∨ caM xs P i (d + 1) < rtB xs (P + 1) i d then caM xs P i (d + 1) else rtB xs (P + 1) i d := by
  rw [rtB_s (by omega), rtB_s (by omega)]
  rfl

theorem rtB_zero {xs : List Int} {i d : Nat} (hd : d < xs.length - 1 - i) : rtB xs 0 i (d + 1) = rtB xs 0 i d := by
  rw [rtB_z (by omega), rtB_z (by omega)]

theorem rtB_bd {xs : List Int} (hS : Steps xs) {P i d : Nat} (hi : i < xs.length) : -1 ≤ rtB xs P i d ∧ rtB xs P i d ≤ 60 := by
  by_cases h : d ≤ xs.length - 1 - i
  · cases P with
    | zero => rw [rtB_z h]; omega
    | succ P =>
      rw [rtB_s h]
      induction d with
      | zero => rw [mnG]; omega
      | succ d ih =>
        have ih := ih (by omega)
        have g2 := hS.caM_bd (P := P) (i := i) (j := d + 1) (by omega) (by omega)
        rw [mnG]
        split <;> omega
  · rw [rtB_e h]
    have := hS.rr_bd P i hi
    omega

end Go.Rx.Try
