/-
  RxO: loops that count.
-/
import Derived.Test.YtophpmdlgphihapRxN
namespace Go.Rx
set_option linter.unusedVariables false

/-- a loop whose rounds are numbered downwards -/
theorem mloop_down {W : (Exit → St → Prop) → St → Prop} {Q : Exit → St → Prop} {s : St} (J : Nat → St → Prop) (j0 : Nat) (h0 : J j0 s)
    (h : ∀ j s', J j s' → ∀ (I : St → Prop) (μ : St → Nat) (m : Nat), (∀ j' s'', j' < j → J j' s'' → I s'' ∧ μ s'' < m) → W (loopK I μ m Q) s') : mloop W Q s := by
  classical
  have key : ∀ s, (∃ j, J j s) → ∃ j, J j s ∧ ∀ k, J k s → j ≤ k := by
    intro s ⟨j, hj⟩
    induction j using Nat.strongRecOn with
    | _ j ih =>
      by_cases hk : ∃ k, k < j ∧ J k s
      · obtain ⟨k, hk, hJ⟩ := hk; exact ih k hk hJ
      · exact ⟨j, hj, fun k hJ => by
          by_cases hkj : j ≤ k
          · exact hkj
          · exact absurd ⟨k, by omega, hJ⟩ hk⟩
  let μ : St → Nat := fun s => if h : ∃ j, J j s then Classical.choose (key s h) else 0
  have hμ : ∀ s, (∃ j, J j s) → J (μ s) s ∧ ∀ k, J k s → μ s ≤ k := by
    intro s h
    have := Classical.choose_spec (key s h)
    simp only [μ, dif_pos h]
    exact this
  refine ⟨fun s => ∃ j, J j s, μ, ⟨j0, h0⟩, fun s' hs => ?_⟩
  refine h (μ s') s' (hμ s' hs).1 _ _ _ fun j' s'' hj hJ => ⟨⟨j', hJ⟩, Nat.lt_of_le_of_lt ((hμ s'' ⟨j', hJ⟩).2 j' hJ) hj⟩

/-- a loop whose rounds are numbered upwards, to n -/
theorem mloop_up {W : (Exit → St → Prop) → St → Prop} {Q : Exit → St → Prop} {s : St} (n : Nat) (J : Nat → St → Prop) (h0 : J 0 s)
    (h : ∀ i s', i ≤ n → J i s' → ∀ (I : St → Prop) (μ : St → Nat) (m : Nat), (∀ s'', i < n → J (i + 1) s'' → I s'' ∧ μ s'' < m) → W (loopK I μ m Q) s') : mloop W Q s := by
  refine mloop_down (fun j s => j ≤ n ∧ J (n - j) s) n ⟨Nat.le_refl _, by simpa using h0⟩ ?_
  intro j s' ⟨hj, hJ⟩ I μ m hn
  refine h (n - j) s' (by omega) hJ I μ m fun s'' hi hJ' => ?_
  refine hn (j - 1) s'' (by omega) ⟨by omega, ?_⟩
  have : n - (j - 1) = n - j + 1 := by omega
  rw [this]; exact hJ'

/-- a call met on the way, the state written out -/
theorem mcall_at {P : Program} {f : FuncId} {args : List AV} {d : Option Nat} {τ : Nat → AV} {H : Heap} {M : St → (St → Prop) → Prop} {K : St → Prop} {R : AV → Heap → Prop} (hc : Callable P f) (h : ACalls P f args H R) (hk : ∀ r H', R r H' → M (St.put ⟨τ, H'⟩ d r) K) : mcall P f args d ⟨τ, H⟩ M K :=
  ⟨hc, R, h, hk⟩

theorem wrap_add1 {i n : Nat} (h : i < n) (hn : n ≤ 1000000000000) : IntKind.wrap .i64 ((i : Int) + 1) = ((i + 1 : Nat) : Int) := by
  rw [wrap64_id] <;> omega

theorem mcond_dec {p : Prop} [Decidable p] {A B : (Exit → St → Prop) → St → Prop} {Q : Exit → St → Prop} {s : St} (h1 : p → A Q s) (h2 : ¬ p → B Q s) : mcond (.bool (decide p)) A B Q s :=
  ⟨fun h => h1 (of_decide_eq_true h), fun h => h2 (of_decide_eq_false h)⟩
theorem bne_dec (a b : Int) : (a != b) = decide (a ≠ b) := by
  by_cases h : a = b <;> simp [h]
theorem beq_dec (a b : Int) : (a == b) = decide (a = b) := by
  by_cases h : a = b <;> simp [h]
theorem dec_not (p : Prop) [Decidable p] : (!decide p) = decide (¬ p) := by
  by_cases h : p <;> simp [h]

theorem cast0 : ((0 : Nat) : Int) = 0 := rfl
theorem nat_ge0 (n : Nat) : (0 ≤ (n : Int)) = True := by simp

/-- lists of numbers, place by place -/
theorem list_ext_getD {xs ys : List Int} (hn : xs.length = ys.length) (h : ∀ k < xs.length, nth xs k = nth ys k) : xs = ys := by
  apply List.ext_getElem hn
  intro i h1 h2
  have := h i h1
  simpa [nth, List.getD, h1, h2] using this

theorem zrep_ints (n : Nat) : zrep [.int .i64 0] (n * 1) = ints (List.replicate n 0) := by
  rw [Nat.mul_one]
  apply List.ext_getElem
  · simp [zrep, ints]
  · intro i h1 h2
    simp [zrep, ints, Nat.mod_one]

theorem mk8 {n : Nat} (h : n ≤ 1000000000000) : (n ≤ n ∧ (n : Int) ≤ 9223372036854775807 ∧ ((8 : Nat) : Int) * (n : Int) ≤ 281474976710656) = True := by
  simp; omega
theorem mk8' {n : Nat} (h : n ≤ 1000000000000) : ((n : Int) ≤ 9223372036854775807 ∧ ((8 : Nat) : Int) * (n : Int) ≤ 281474976710656) = True := by
  simp; omega

theorem OwnI.made (A : Heap) {H : Heap} {n id : Nat} (hid : A.size ≤ id) : OwnI A (H.new id (some ⟨true, Rx.ints (List.replicate n 0)⟩)) (.slice id 0 n none 1) (List.replicate n 0) := by
  unfold OwnI
  rw [List.length_replicate]
  exact Own.fresh (by simp [Rx.ints]) hid

/-- a number is put into a slice of one's own -/
theorem OwnI.set {A H : Heap} {v : AV} {xs : List Int} (h : OwnI A H v xs) (hl : Le A H) {i : Nat} (hi : i < xs.length) (x : Int) :
    ∃ H', H.write (v.elem i) [.int .i64 x] = some H' ∧ OwnI A H' v (xs.set i x) ∧ Le A H' ∧ H'.size = H.size ∧ (∀ k, v.bid ≠ some k → H'.get k = H.get k) := by
  rcases h.is with ⟨rfl, h0⟩ | ⟨id, rfl, h1, h2, h3⟩
  · omega
  · have hc : (Rx.ints xs).length = xs.length := Rx.ints_length xs
    refine ⟨H.put id (some ⟨true, Rx.ints (xs.set i x)⟩), ?_, ?_, hl.put h1 _, rfl, ?_⟩
    · simp only [AV.elem, Heap.write, h3]
      rw [if_pos (by simp [hc, AV.one]; omega)]
      congr 3
      simp only [Nat.zero_add, Nat.mul_one, List.length_cons, List.length_nil]
      simp only [Rx.ints, List.map_set]
      rw [List.set_eq_take_append_cons_drop, if_pos (by simpa using hi)]
      simp
    · unfold OwnI
      rw [List.length_set]
      refine ⟨by simp [Rx.ints], .inr ⟨id, rfl, h1, h2, by simp [Heap.get_put]⟩⟩
    · intro k hk
      rw [Heap.get_put, if_neg]
      intro e; subst e; exact hk rfl

theorem OwnI.sl {A H : Heap} {v : AV} {xs : List Int} (h : OwnI A H v xs) : v.isSlice = true := h.ints.sl
theorem OwnI.len {A H : Heap} {v : AV} {xs : List Int} (h : OwnI A H v xs) : v.len = xs.length := h.ints.len
theorem OwnI.es {A H : Heap} {v : AV} {xs : List Int} (h : OwnI A H v xs) {i : Nat} (hi : i < xs.length) : v.es = some 1 := h.ints.es hi
theorem OwnI.elem {A H : Heap} {v : AV} {xs : List Int} (h : OwnI A H v xs) {i : Nat} (hi : i < xs.length) : H.read (v.elem i) 1 = some [.int .i64 (nth xs i)] := h.ints.elem hi
theorem Ints.lt {H : Heap} {v : AV} {xs : List Int} (h : Ints H v xs) : ∀ k, v.bid = some k → k < H.size := Vals.bid h

/-- a list that is filled from the left -/
theorem fill_step {xs : List Int} {i n : Nat} (hi : i < n) (x : Int) (hx : nth xs i = x) (hn : n = xs.length) : (xs.take i ++ List.replicate (n - i) 0).set i x = xs.take (i + 1) ++ List.replicate (n - (i + 1)) 0 := by
  subst hn
  have h1 : xs.length - i = (xs.length - (i + 1)) + 1 := by omega
  rw [h1, List.replicate_succ, List.set_append_right _ _ (by simp; omega)]
  have h2 : i - (xs.take i).length = 0 := by simp; omega
  rw [h2, List.set_cons_zero, List.take_add_one, List.getElem?_eq_getElem hi]
  simp only [Option.toList_some, List.append_assoc, List.cons_append, List.nil_append]
  rw [← hx]; simp [nth, List.getD, hi]

end Go.Rx
