import Derived.Test.YtophpmdlgphihaaFnPieceMissD1
namespace Go.Rx.Try
open Go.Proofs
set_option maxRecDepth 100000
set_option maxHeartbeats 8000000
set_option linter.unusedSimpArgs false
set_option linter.unusedVariables false

theorem Bks.sums {S W : Nat → Rat} {n : Nat} (hW : AscW W n) : ∀ {r : List Nat} {e : Nat}, e ≤ n → Bks S W r e → (∀ t, t ≤ e → fitS S W r e t ≤ S t - S 0) ∧ fitS S W r e e = S e - S 0
  | [], e, _, h => by
    obtain rfl : e = 0 := h
    have : fitS S W [] 0 0 = 0 := rfl
    refine ⟨fun t ht => ?_, by rw [this]; grind⟩
    obtain rfl : t = 0 := by omega
    rw [this]; grind
  | a :: r, e, he, h => by
    obtain ⟨h1, h2, h3⟩ := h
    obtain ⟨i1, i2⟩ := Bks.sums hW (by omega) h3
    refine ⟨fun t ht => ?_, ?_⟩
    · rcases Nat.le_total t a with h4 | h4
      · rw [fitS_lt h4]; exact i1 t h4
      · rw [fitS_ge h4, i2]
        have := h2 t h4 ht; grind
    · rw [fitS_ge (by omega), i2]
      have := mnA_mul (S := S) (hW.lt h1 he); grind

def Loads (xs ws : List Int) : Prop := (∀ w ∈ ws, 1 ≤ w ∧ w ≤ 5) ∧ Bd 30 xs ∧ xs.length = ws.length ∧ 1 ≤ xs.length ∧ xs.length ≤ 8

noncomputable instance (xs ws : List Int) : Decidable (Loads xs ws) := Classical.propDecidable _

theorem Loads.w {xs ws : List Int} (h : Loads xs ws) {i : Nat} (hi : i < xs.length) : 1 ≤ nth ws i ∧ nth ws i ≤ 5 := by
  have h1 : i < ws.length := by have := h.2.2.1; omega
  rw [nth_of h1]; exact h.1 _ (List.getElem_mem h1)

theorem Loads.x {xs ws : List Int} (h : Loads xs ws) (i : Nat) : -30 ≤ nth xs i ∧ nth xs i ≤ 30 := h.2.1.nth (by omega) i

theorem Loads.sums {xs ws : List Int} (h : Loads xs ws) {i : Nat} : ∀ {e}, i ≤ e → e ≤ xs.length →
    (((e - i : Nat) : Int) ≤ sumI ws e - sumI ws i ∧ sumI ws e - sumI ws i ≤ 5 * ((e - i : Nat) : Int)) ∧ (-(30 * (sumI ws e - sumI ws i)) ≤ dotT xs ws e - dotT xs ws i ∧ dotT xs ws e - dotT xs ws i ≤ 30 * (sumI ws e - sumI ws i))
  | 0, h1, _ => by obtain rfl : i = 0 := by omega
                   simp
  | e + 1, h1, h2 => by
    rcases Nat.lt_or_ge e i with h3 | h3
    · obtain rfl : i = e + 1 := by omega
      simp
    · have ih := h.sums (i := i) (e := e) h3 (by omega)
      have hw := h.w (i := e) (by omega)
      have hx := h.x e
      have m1 : nth xs e * nth ws e ≤ 30 * nth ws e := Int.mul_le_mul_of_nonneg_right hx.2 (by omega)
      have m2 : -30 * nth ws e ≤ nth xs e * nth ws e := Int.mul_le_mul_of_nonneg_right hx.1 (by omega)
      rw [show sumI ws (e + 1) = sumI ws e + nth ws e from rfl, show dotT xs ws (e + 1) = dotT xs ws e + nth xs e * nth ws e from rfl]
      generalize nth xs e * nth ws e = p at *
      omega

theorem Loads.pos {xs ws : List Int} (h : Loads xs ws) {i e : Nat} (h1 : i < e) (h2 : e ≤ xs.length) : 1 ≤ sumI ws e - sumI ws i ∧ sumI ws e - sumI ws i ≤ 40 := by
  have := (h.sums (i := i) (e := e) (by omega) h2).1
  have := h.2.2.2.2
  omega

def Dv (q : Rat) (D : Int) : Prop := 0 < D ∧ ∃ k : Int, q * (D : Rat) = (k : Rat)

theorem Dv.lift {q : Rat} {D m : Int} (h : Dv q D) (hm : 0 < m) : Dv q (D * m) := by
  obtain ⟨h1, k, h2⟩ := h
  exact ⟨Int.mul_pos h1 hm, k * m, by rw [Rat.intCast_mul, Rat.intCast_mul, ← Rat.mul_assoc, h2]⟩

theorem Dv.add {p q : Rat} {D : Int} (h : Dv p D) (h' : Dv q D) : Dv (p + q) D := by
  obtain ⟨h1, k, h2⟩ := h
  obtain ⟨_, l, h3⟩ := h'
  exact ⟨h1, k + l, by rw [Rat.intCast_add, ← h2, ← h3]; grind⟩

theorem Dv.mul {p q : Rat} {D E : Int} (h : Dv p D) (h' : Dv q E) : Dv (p * q) (D * E) := by
  obtain ⟨h1, k, h2⟩ := h
  obtain ⟨h4, l, h3⟩ := h'
  exact ⟨Int.mul_pos h1 h4, k * l, by rw [Rat.intCast_mul, Rat.intCast_mul, ← h2, ← h3]; grind⟩

theorem Dv.int (n : Int) : Dv (n : Rat) 1 := ⟨by omega, n, by simp⟩

theorem Dv.to {q : Rat} {D E : Int} (h : Dv q D) (e : D = E) : Dv q E := e ▸ h

def sumY (g : Nat → Int) : Nat → Int
  | 0 => 0
  | n + 1 => sumY g n + g n

theorem Loads.take {xs ws : List Int} (h : Loads xs ws) {k : Nat} (h1 : 1 ≤ k) (h2 : k ≤ xs.length) : Loads (xs.take k) (ws.take k) := by
  obtain ⟨g1, g2, g3, g4, g5⟩ := h
  exact ⟨fun w hw => g1 w (List.mem_of_mem_take hw), fun x hx => g2 x (List.mem_of_mem_take hx), by rw [List.length_take, List.length_take]; omega, by rw [List.length_take]; omega, by rw [List.length_take]; omega⟩

def Steps (xs : List Int) : Prop := Bd 30 xs ∧ 1 ≤ xs.length ∧ xs.length ≤ 8

noncomputable instance (xs : List Int) : Decidable (Steps xs) := Classical.propDecidable _

theorem Steps.x {xs : List Int} (h : Steps xs) (j : Nat) : -30 ≤ nth xs j ∧ nth xs j ≤ 30 := h.1.nth (by omega) j

theorem validHeights_ok {H : Heap} {a : AV} {xs : List Int} (ha : Ints H a xs) (hl : xs.length ≤ 1000000000) :
    ACalls Try.prog fn_impl_validHeights [a] H fun r H' => r = .bool (decide (Steps xs)) ∧ H' = H := by
  refine ACalls.val ?_ rfl
  refine code_impl_validHeights.go [.roI a xs.length xs] ⟨⟨rfl, ha⟩, trivial⟩ (by simp) ?_
  unfold mc_impl_validHeights
  have no : (Steps xs → False) → decide (Steps xs) = false := fun h => decide_eq_false h
  (repeat (first | refine gst (hk := ?_) | (show GO _ _ _ _ _ (⟨some _, none, _⟩ :: _) _; first | refine go_op (hk := ?_) | (refine go_nw (hk := ?_); intro u; try simp only [llc, lln, lna, lza]) | (refine go_np (hk := ?_); intro id)) | (show GO _ _ _ _ _ (⟨none, none, _⟩ :: _) _; refine go_st (hk := ?_)) | (show GO _ _ _ _ _ (⟨_, some _, _⟩ :: _) _; first | refine go_in (hk := ?_) | refine go_out (hk := ?_) | refine go_void (hk := ?_)) | (show GK _ _ _ _ (blockK _ _ _); refine gk_past rfl ?_) | (show GC _ _ _ _ _ (.cond _ _ _) _; first | refine gc_yes (h1 := ?_) | refine gc_no (h1 := ?_))))
  refine go_split 8 rfl (fun h1 => ?_) (fun h1 => ?_)
  · (repeat (first | refine gst (hk := ?_) | (show GO _ _ _ _ _ (⟨some _, none, _⟩ :: _) _; first | refine go_op (hk := ?_) | (refine go_nw (hk := ?_); intro u; try simp only [llc, lln, lna, lza]) | (refine go_np (hk := ?_); intro id)) | (show GO _ _ _ _ _ (⟨none, none, _⟩ :: _) _; refine go_st (hk := ?_)) | (show GO _ _ _ _ _ (⟨_, some _, _⟩ :: _) _; first | refine go_in (hk := ?_) | refine go_out (hk := ?_) | refine go_void (hk := ?_)) | (show GK _ _ _ _ (blockK _ _ _); refine gk_past rfl ?_) | (show GC _ _ _ _ _ (.cond _ _ _) _; first | refine gc_yes (h1 := ?_) | refine gc_no (h1 := ?_))))
    exact gk_ret rfl fun H' hH => ⟨by rw [no fun h => by have := h.2.1; omega]; rfl, hH.leE⟩
  (repeat (first | refine gst (hk := ?_) | (show GO _ _ _ _ _ (⟨some _, none, _⟩ :: _) _; first | refine go_op (hk := ?_) | (refine go_nw (hk := ?_); intro u; try simp only [llc, lln, lna, lza]) | (refine go_np (hk := ?_); intro id)) | (show GO _ _ _ _ _ (⟨none, none, _⟩ :: _) _; refine go_st (hk := ?_)) | (show GO _ _ _ _ _ (⟨_, some _, _⟩ :: _) _; first | refine go_in (hk := ?_) | refine go_out (hk := ?_) | refine go_void (hk := ?_)) | (show GK _ _ _ _ (blockK _ _ _); refine gk_past rfl ?_) | (show GC _ _ _ _ _ (.cond _ _ _) _; first | refine gc_yes (h1 := ?_) | refine gc_no (h1 := ?_))))
  refine gc_cond rfl (fun h2 => ?_) (fun h2 => ?_)
  · (repeat (first | refine gst (hk := ?_) | (show GO _ _ _ _ _ (⟨some _, none, _⟩ :: _) _; first | refine go_op (hk := ?_) | (refine go_nw (hk := ?_); intro u; try simp only [llc, lln, lna, lza]) | (refine go_np (hk := ?_); intro id)) | (show GO _ _ _ _ _ (⟨none, none, _⟩ :: _) _; refine go_st (hk := ?_)) | (show GO _ _ _ _ _ (⟨_, some _, _⟩ :: _) _; first | refine go_in (hk := ?_) | refine go_out (hk := ?_) | refine go_void (hk := ?_)) | (show GK _ _ _ _ (blockK _ _ _); refine gk_past rfl ?_) | (show GC _ _ _ _ _ (.cond _ _ _) _; first | refine gc_yes (h1 := ?_) | refine gc_no (h1 := ?_))))
    exact gk_ret rfl fun H' hH => ⟨by rw [no fun h => by have := h.2.2; omega]; rfl, hH.leE⟩
  (repeat (first | refine gst (hk := ?_) | (show GO _ _ _ _ _ (⟨some _, none, _⟩ :: _) _; first | refine go_op (hk := ?_) | (refine go_nw (hk := ?_); intro u; try simp only [llc, lln, lna, lza]) | (refine go_np (hk := ?_); intro id)) | (show GO _ _ _ _ _ (⟨none, none, _⟩ :: _) _; refine go_st (hk := ?_)) | (show GO _ _ _ _ _ (⟨_, some _, _⟩ :: _) _; first | refine go_in (hk := ?_) | refine go_out (hk := ?_) | refine go_void (hk := ?_)) | (show GK _ _ _ _ (blockK _ _ _); refine gk_past rfl ?_) | (show GC _ _ _ _ _ (.cond _ _ _) _; first | refine gc_yes (h1 := ?_) | refine gc_no (h1 := ?_))))
  refine gc_loop (γ := Nat) (fun i => [(13, a), (14, .int .i64 (xs.length : Int)), (15, .int .i64 (i : Int))]) (fun _ => [.roI a xs.length xs]) (fun i => i ≤ xs.length ∧ ∀ j, j < i → -30 ≤ nth xs j ∧ nth xs j ≤ 30) (fun i => xs.length - i) 0 ⟨Nat.zero_le _, fun k hk => by omega⟩ (hb := ?_)
  rintro i ⟨hi, hp⟩ I ν m hk
  (repeat (first | refine gst (hk := ?_) | (show GO _ _ _ _ _ (⟨some _, none, _⟩ :: _) _; first | refine go_op (hk := ?_) | (refine go_nw (hk := ?_); intro u; try simp only [llc, lln, lna, lza]) | (refine go_np (hk := ?_); intro id)) | (show GO _ _ _ _ _ (⟨none, none, _⟩ :: _) _; refine go_st (hk := ?_)) | (show GO _ _ _ _ _ (⟨_, some _, _⟩ :: _) _; first | refine go_in (hk := ?_) | refine go_out (hk := ?_) | refine go_void (hk := ?_)) | (show GK _ _ _ _ (blockK _ _ _); refine gk_past rfl ?_) | (show GC _ _ _ _ _ (.cond _ _ _) _; first | refine gc_yes (h1 := ?_) | refine gc_no (h1 := ?_))))
  refine gc_cond rfl (fun h => ?_) (fun h => ?_)
  · (repeat (first | refine gst (hk := ?_) | (show GO _ _ _ _ _ (⟨some _, none, _⟩ :: _) _; first | refine go_op (hk := ?_) | (refine go_nw (hk := ?_); intro u; try simp only [llc, lln, lna, lza]) | (refine go_np (hk := ?_); intro id)) | (show GO _ _ _ _ _ (⟨none, none, _⟩ :: _) _; refine go_st (hk := ?_)) | (show GO _ _ _ _ _ (⟨_, some _, _⟩ :: _) _; first | refine go_in (hk := ?_) | refine go_out (hk := ?_) | refine go_void (hk := ?_)) | (show GK _ _ _ _ (blockK _ _ _); refine gk_past rfl ?_) | (show GC _ _ _ _ _ (.cond _ _ _) _; first | refine gc_yes (h1 := ?_) | refine gc_no (h1 := ?_))))
    refine go_split 21 rfl (fun h3 => ?_) (fun h3 => ?_)
    · (repeat (first | refine gst (hk := ?_) | (show GO _ _ _ _ _ (⟨some _, none, _⟩ :: _) _; first | refine go_op (hk := ?_) | (refine go_nw (hk := ?_); intro u; try simp only [llc, lln, lna, lza]) | (refine go_np (hk := ?_); intro id)) | (show GO _ _ _ _ _ (⟨none, none, _⟩ :: _) _; refine go_st (hk := ?_)) | (show GO _ _ _ _ _ (⟨_, some _, _⟩ :: _) _; first | refine go_in (hk := ?_) | refine go_out (hk := ?_) | refine go_void (hk := ?_)) | (show GK _ _ _ _ (blockK _ _ _); refine gk_past rfl ?_) | (show GC _ _ _ _ _ (.cond _ _ _) _; first | refine gc_yes (h1 := ?_) | refine gc_no (h1 := ?_))))
      exact gk_ret rfl fun H' hH => ⟨by rw [no fun hL => by have := hL.x i; omega]; rfl, hH.leE⟩
    (repeat (first | refine gst (hk := ?_) | (show GO _ _ _ _ _ (⟨some _, none, _⟩ :: _) _; first | refine go_op (hk := ?_) | (refine go_nw (hk := ?_); intro u; try simp only [llc, lln, lna, lza]) | (refine go_np (hk := ?_); intro id)) | (show GO _ _ _ _ _ (⟨none, none, _⟩ :: _) _; refine go_st (hk := ?_)) | (show GO _ _ _ _ _ (⟨_, some _, _⟩ :: _) _; first | refine go_in (hk := ?_) | refine go_out (hk := ?_) | refine go_void (hk := ?_)) | (show GK _ _ _ _ (blockK _ _ _); refine gk_past rfl ?_) | (show GC _ _ _ _ _ (.cond _ _ _) _; first | refine gc_yes (h1 := ?_) | refine gc_no (h1 := ?_))))
    refine gc_cond rfl (fun h4 => ?_) (fun h4 => ?_)
    · (repeat (first | refine gst (hk := ?_) | (show GO _ _ _ _ _ (⟨some _, none, _⟩ :: _) _; first | refine go_op (hk := ?_) | (refine go_nw (hk := ?_); intro u; try simp only [llc, lln, lna, lza]) | (refine go_np (hk := ?_); intro id)) | (show GO _ _ _ _ _ (⟨none, none, _⟩ :: _) _; refine go_st (hk := ?_)) | (show GO _ _ _ _ _ (⟨_, some _, _⟩ :: _) _; first | refine go_in (hk := ?_) | refine go_out (hk := ?_) | refine go_void (hk := ?_)) | (show GK _ _ _ _ (blockK _ _ _); refine gk_past rfl ?_) | (show GC _ _ _ _ _ (.cond _ _ _) _; first | refine gc_yes (h1 := ?_) | refine gc_no (h1 := ?_))))
      exact gk_ret rfl fun H' hH => ⟨by rw [no fun hL => by have := hL.x i; omega]; rfl, hH.leE⟩
    · (repeat (first | refine gst (hk := ?_) | (show GO _ _ _ _ _ (⟨some _, none, _⟩ :: _) _; first | refine go_op (hk := ?_) | (refine go_nw (hk := ?_); intro u; try simp only [llc, lln, lna, lza]) | (refine go_np (hk := ?_); intro id)) | (show GO _ _ _ _ _ (⟨none, none, _⟩ :: _) _; refine go_st (hk := ?_)) | (show GO _ _ _ _ _ (⟨_, some _, _⟩ :: _) _; first | refine go_in (hk := ?_) | refine go_out (hk := ?_) | refine go_void (hk := ?_)) | (show GK _ _ _ _ (blockK _ _ _); refine gk_past rfl ?_) | (show GC _ _ _ _ _ (.cond _ _ _) _; first | refine gc_yes (h1 := ?_) | refine gc_no (h1 := ?_))))
      refine gk_next (hk (i + 1) ⟨by omega, fun j hj => ?_⟩ (by omega))
      rcases Nat.lt_or_ge j i with h5 | h5
      · exact hp j h5
      · rw [show j = i by omega]; omega
  · obtain rfl : i = xs.length := by omega
    have h6 : Bd 30 xs := fun x hx => by
      obtain ⟨m, hm, rfl⟩ := nth_ex hx
      exact hp m hm
    (repeat (first | refine gst (hk := ?_) | (show GO _ _ _ _ _ (⟨some _, none, _⟩ :: _) _; first | refine go_op (hk := ?_) | (refine go_nw (hk := ?_); intro u; try simp only [llc, lln, lna, lza]) | (refine go_np (hk := ?_); intro id)) | (show GO _ _ _ _ _ (⟨none, none, _⟩ :: _) _; refine go_st (hk := ?_)) | (show GO _ _ _ _ _ (⟨_, some _, _⟩ :: _) _; first | refine go_in (hk := ?_) | refine go_out (hk := ?_) | refine go_void (hk := ?_)) | (show GK _ _ _ _ (blockK _ _ _); refine gk_past rfl ?_) | (show GC _ _ _ _ _ (.cond _ _ _) _; first | refine gc_yes (h1 := ?_) | refine gc_no (h1 := ?_))))
    exact gk_ret rfl fun H' hH => ⟨by
      have : Steps xs := ⟨h6, by omega, by omega⟩
      simp [tupleOf, this], hH.leE⟩

structure BK where
  id : Nat
  k : Kd
  v : AV
  s : Nat
  e : Nat

def BKok (b : BK) : Prop := b.k = .rw ∨ (b.k = .ro ∧ ∃ id off, b.v = .slice id off (b.e - b.s) (some (b.e - b.s)) 2)

theorem BKok.kd {b : BK} (h : BKok b) : b.k = .rw ∨ b.k = .ro := h.imp (fun h => h) fun h => h.1

structure Cst {α : Type} (op : α → α → α) (le : α → α → Prop) : Prop where
  assoc : ∀ a b c, op (op a b) c = op a (op b c)
  comm : ∀ a b, op a b = op b a
  mono : ∀ {a b} c, le a b → le (op a c) (op b c)
  refl : ∀ a, le a a
  trans : ∀ {a b c}, le a b → le b c → le a c
  anti : ∀ {a b}, le a b → le b a → a = b

inductive Cuts {α : Type} (op : α → α → α) (c : Nat → Nat → α) : Nat → Nat → Nat → α → Prop
  | one {i k : Nat} (h : i < k) : Cuts op c 1 i k (c i k)
  | snoc {p i m k : Nat} {v : α} (h : Cuts op c p i m v) (hk : m < k) : Cuts op c (p + 1) i k (op v (c m k))

theorem Cuts.lt {α : Type} {op : α → α → α} {c : Nat → Nat → α} {p i k : Nat} {v : α} (h : Cuts op c p i k v) : i < k ∧ 1 ≤ p ∧ i + p ≤ k := by
  induction h with
  | one h => omega
  | snoc h hk ih => omega

theorem Cuts.cons {α : Type} {op : α → α → α} {le : α → α → Prop} (hc : Cst op le) {c : Nat → Nat → α} {p i m k : Nat} {v : α} (hi : i < m) (h : Cuts op c p m k v) : Cuts op c (p + 1) i k (op (c i m) v) := by
  induction h with
  | one h => exact .snoc (.one hi) h
  | snoc h hk ih => rw [← hc.assoc]; exact .snoc (ih hi) hk

def LeastC {α : Type} (op : α → α → α) (le : α → α → Prop) (c : Nat → Nat → α) (P i k : Nat) (v : α) : Prop := (∃ q, q ≤ P ∧ Cuts op c q i k v) ∧ ∀ q w, q ≤ P → Cuts op c q i k w → le v w

theorem LeastC.pos {α : Type} {op : α → α → α} {le : α → α → Prop} {c : Nat → Nat → α} {P i k : Nat} {v : α} (h : LeastC op le c P i k v) : 1 ≤ P ∧ i < k := by
  obtain ⟨⟨q, h1, h2⟩, _⟩ := h
  have := h2.lt
  omega

theorem LeastC.congr {α : Type} {op : α → α → α} {le : α → α → Prop} {c d : Nat → Nat → α} {n P : Nat} (hd : ∀ i k, i < k → k ≤ n → d i k = c i k) {v : α} (h : LeastC op le d P 0 n v) : LeastC op le c P 0 n v := by
  have key : ∀ {c d : Nat → Nat → α}, (∀ i k, i < k → k ≤ n → d i k = c i k) → ∀ {p i k : Nat} {v : α}, Cuts op d p i k v → k ≤ n → Cuts op c p i k v := by
    intro c d hd p i k v h
    induction h with
    | one h => intro hk; rw [hd _ _ h hk]; exact .one h
    | snoc h hmk ih => intro hk; rw [hd _ _ hmk hk]; exact .snoc (ih (by omega)) hmk
  obtain ⟨⟨q, h1, h2⟩, h3⟩ := h
  exact ⟨⟨q, h1, key hd h2 (Nat.le_refl _)⟩, fun q w hq hw => h3 q w hq (key (fun i k h1 h2 => (hd i k h1 h2).symm) hw (Nat.le_refl _))⟩

def wsS (xs : List Int) (i d : Nat) : Int := sumY (fun j => nth xs (i + j)) d

def wsQ (xs : List Int) (i d : Nat) : Int := sumY (fun j => nth xs (i + j) * nth xs (i + j)) d

def pieR (xs : List Int) (i k : Nat) : Rat := ((((k - i : Nat) : Int) * wsQ xs i (k - i) - wsS xs i (k - i) * wsS xs i (k - i) : Int) : Rat) / (((k - i : Nat) : Int) : Rat)

/-- about any number -/
def qaR (xs : List Int) (i : Nat) (c : Rat) : Nat → Rat
  | 0 => 0
  | d + 1 => qaR xs i c d + (((nth xs (i + d) : Int) : Rat) - c) * (((nth xs (i + d) : Int) : Rat) - c)

theorem sqR_nonneg (x : Rat) : 0 ≤ x * x := by
  rcases Rat.le_total (a := 0) (b := x) with h | h
  · exact Rat.mul_nonneg h h
  · have := Rat.mul_nonneg (show 0 ≤ -x by grind) (show 0 ≤ -x by grind)
    grind

theorem qa_eq (xs : List Int) (i : Nat) (c : Rat) : ∀ d, qaR xs i c d = ((wsQ xs i d : Int) : Rat) - c * ((wsS xs i d : Int) : Rat) - c * ((wsS xs i d : Int) : Rat) + c * c * (((d : Nat) : Int) : Rat)
  | 0 => by
    show (0 : Rat) = ((0 : Int) : Rat) - c * ((0 : Int) : Rat) - c * ((0 : Int) : Rat) + c * c * (((0 : Nat) : Int) : Rat)
    rw [show (((0 : Nat) : Int) : Rat) = 0 from rfl, show ((0 : Int) : Rat) = 0 from rfl]; grind
  | d + 1 => by
    rw [qaR, qa_eq xs i c d]
    rw [show wsQ xs i (d + 1) = wsQ xs i d + nth xs (i + d) * nth xs (i + d) from rfl, show wsS xs i (d + 1) = wsS xs i d + nth xs (i + d) from rfl, show (((d + 1 : Nat) : Int)) = ((d : Nat) : Int) + 1 by omega]
    simp only [Rat.intCast_add, Rat.intCast_mul]
    rw [show ((1 : Int) : Rat) = 1 from rfl]
    grind

theorem qa_nonneg (xs : List Int) (i : Nat) (c : Rat) : ∀ d, 0 ≤ qaR xs i c d
  | 0 => Rat.le_refl
  | d + 1 => by
    have h1 := qa_nonneg xs i c d
    have h2 := sqR_nonneg (((nth xs (i + d) : Int) : Rat) - c)
    rw [qaR]; grind

def mwR (xs : List Int) (i k : Nat) : Rat := ((wsS xs i (k - i) : Int) : Rat) / (((k - i : Nat) : Int) : Rat)

theorem ms_qa {xs : List Int} {i k : Nat} (h : i < k) : pieR xs i k = qaR xs i (mwR xs i k) (k - i) := by
  have hn : ((((k - i : Nat) : Int)) : Rat) ≠ 0 := rat_ne (by omega)
  rw [qa_eq]
  unfold pieR mwR
  simp only [Rat.intCast_sub, Rat.intCast_mul]
  generalize (((k - i : Nat) : Int) : Rat) = n at *
  generalize ((wsS xs i (k - i) : Int) : Rat) = s at *
  generalize ((wsQ xs i (k - i) : Int) : Rat) = q at *
  have e1 : s / n * n = s := Rat.div_mul_cancel hn
  have e2 : (n * q - s * s) / n * n = n * q - s * s := Rat.div_mul_cancel hn
  generalize s / n = m at *
  generalize (n * q - s * s) / n = w at *
  subst e1
  have e3 : (w - (q - m * (m * n) - m * (m * n) + m * m * n)) * n = 0 := by grind
  rcases Rat.mul_eq_zero.1 e3 with e4 | e4
  · grind
  · exact absurd e4 hn

theorem ms_le {xs : List Int} {i k : Nat} (h : i < k) (c : Rat) : pieR xs i k ≤ qaR xs i c (k - i) := by
  have hn : 0 < (((k - i : Nat) : Int) : Rat) := by
    have := Rat.intCast_lt_intCast.2 (show (0 : Int) < ((k - i : Nat) : Int) by omega)
    exact this
  have hn0 : (((k - i : Nat) : Int) : Rat) ≠ 0 := rat_ne (by omega)
  rw [ms_qa h, qa_eq, qa_eq]
  unfold mwR
  generalize (((k - i : Nat) : Int) : Rat) = n at *
  generalize ((wsS xs i (k - i) : Int) : Rat) = s at *
  generalize ((wsQ xs i (k - i) : Int) : Rat) = q at *
  have e1 : s / n * n = s := Rat.div_mul_cancel hn0
  generalize s / n = m at *
  subst e1
  have h2 := Rat.mul_nonneg (Rat.le_of_lt hn) (sqR_nonneg (c - m))
  grind

theorem ms_nonneg {xs : List Int} {i k : Nat} (h : i < k) : 0 ≤ pieR xs i k := by rw [ms_qa h]; exact qa_nonneg _ _ _ _

/-- one number more -/
theorem ms_more {xs : List Int} {i k : Nat} (h : i < k) : pieR xs i k ≤ pieR xs i (k + 1) := by
  have h1 := ms_le (xs := xs) h (mwR xs i (k + 1))
  refine Rat.le_trans h1 ?_
  rw [ms_qa (xs := xs) (i := i) (k := k + 1) (by omega), show k + 1 - i = (k - i) + 1 by omega, qaR]
  have := sqR_nonneg (((nth xs (i + (k - i)) : Int) : Rat) - mwR xs i (k + 1))
  grind

theorem qa_zero {xs : List Int} {i : Nat} {c : Rat} : ∀ {d}, qaR xs i c d = 0 → ∀ j, j < d → ((nth xs (i + j) : Int) : Rat) = c
  | 0, _, j, hj => absurd hj (Nat.not_lt_zero _)
  | d + 1, h, j, hj => by
    have h1 := qa_nonneg xs i c d
    have h2 := sqR_nonneg (((nth xs (i + d) : Int) : Rat) - c)
    rw [qaR] at h
    rcases Nat.lt_or_ge j d with g | g
    · exact qa_zero (by grind) j g
    · obtain rfl : j = d := by omega
      have h3 : (((nth xs (i + j) : Int) : Rat) - c) * (((nth xs (i + j) : Int) : Rat) - c) = 0 := by grind
      rcases Rat.mul_eq_zero.1 h3 with h4 | h4 <;> grind

theorem ms_zero {xs : List Int} {i k : Nat} (h : i < k) : pieR xs i k = 0 ↔ ∀ j, i ≤ j → j < k → nth xs j = nth xs i := by
  constructor
  · intro h0 j h1 h2
    rw [ms_qa h] at h0
    have a := qa_zero h0 (j - i) (by omega)
    have b := qa_zero h0 0 (by omega)
    rw [show i + (j - i) = j by omega] at a
    rw [Nat.add_zero] at b
    exact rat_inj (a.trans b.symm)
  · intro hs
    refine Rat.le_antisymm ?_ (ms_nonneg h)
    have h1 := ms_le (xs := xs) h ((nth xs i : Int) : Rat)
    refine Rat.le_trans h1 ?_
    have key : ∀ d, d ≤ k - i → qaR xs i ((nth xs i : Int) : Rat) d = 0 := by
      intro d
      induction d with
      | zero => intro _; rfl
      | succ d ih =>
        intro hd
        rw [qaR, ih (by omega), hs (i + d) (by omega) (by omega)]; grind
    rw [key _ (Nat.le_refl _)]
    exact Rat.le_refl

theorem ws_bd {xs : List Int} (hb : ∀ j, -30 ≤ nth xs j ∧ nth xs j ≤ 30) (i : Nat) : ∀ d : Nat, (-(30 * (d : Int)) ≤ wsS xs i d ∧ wsS xs i d ≤ 30 * (d : Int)) ∧ 0 ≤ wsQ xs i d ∧ wsQ xs i d ≤ 900 * (d : Int)
  | 0 => by simp [wsS, wsQ, sumY]
  | d + 1 => by
    obtain ⟨⟨a1, a2⟩, a3, a4⟩ := ws_bd hb i d
    have hx := hb (i + d)
    rw [show wsS xs i (d + 1) = wsS xs i d + nth xs (i + d) from rfl, show wsQ xs i (d + 1) = wsQ xs i d + nth xs (i + d) * nth xs (i + d) from rfl]
    generalize nth xs (i + d) = x at *
    have m1 := absmul (k := x) (l := x) (A := 30) (B := 30) (by omega) (by omega) (by omega) (by omega)
    have m0 : 0 ≤ x * x := by
      rcases Int.le_total 0 x with g | g
      · exact Int.mul_nonneg g g
      · have := Int.mul_nonneg (show 0 ≤ -x by omega) (show 0 ≤ -x by omega)
        rwa [Int.neg_mul_neg] at this
    omega

theorem pie_fd {xs : List Int} (hb : ∀ j, -30 ≤ nth xs j ∧ nth xs j ≤ 30) {i k : Nat} (h : i < k) (hk : k ≤ i + 8) : FD (pieR xs i k) (((k - i : Nat) : Int)) 115200 := by
  obtain ⟨a1, a3, a4⟩ := ws_bd hb i (k - i)
  refine FD.div (by omega) ?_
  generalize hn : k - i = n at *
  have m1 := absmul (k := wsS xs i n) (l := wsS xs i n) (A := 240) (B := 240) (by omega) (by omega) (by omega) (by omega)
  have m2 : (n : Int) * wsQ xs i n ≤ 8 * 7200 := Int.mul_le_mul (by omega) (by omega) (by omega) (by omega)
  have m3 : 0 ≤ (n : Int) * wsQ xs i n := Int.mul_nonneg (by omega) (by omega)
  generalize wsS xs i n * wsS xs i n = p at *
  generalize (n : Int) * wsQ xs i n = q at *
  omega

theorem pie_fd2 {xs : List Int} (hb : ∀ j, -30 ≤ nth xs j ∧ nth xs j ≤ 30) {i k : Nat} (h : i < k) (hk : k ≤ i + 8) : FD (pieR xs i k) 840 96768000 := by
  have f := pie_fd hb h hk
  have key : ∃ m : Int, 0 < m ∧ ((k - i : Nat) : Int) * m = 840 ∧ m ≤ 840 := by
    have h1 : k - i = 1 ∨ k - i = 2 ∨ k - i = 3 ∨ k - i = 4 ∨ k - i = 5 ∨ k - i = 6 ∨ k - i = 7 ∨ k - i = 8 := by omega
    rcases h1 with h1 | h1 | h1 | h1 | h1 | h1 | h1 | h1 <;> rw [h1]
    · exact ⟨840, by omega⟩
    · exact ⟨420, by omega⟩
    · exact ⟨280, by omega⟩
    · exact ⟨210, by omega⟩
    · exact ⟨168, by omega⟩
    · exact ⟨140, by omega⟩
    · exact ⟨120, by omega⟩
    · exact ⟨105, by omega⟩
  obtain ⟨m, m1, m2, m3⟩ := key
  exact ((f.lift m1).to m2).mono (by omega)

def winL (xs : List Int) (i k : Nat) : List Int := (xs.drop i).take (k - i)

theorem win_nth {xs : List Int} {i k j : Nat} (hk : k ≤ xs.length) (hj : j < k - i) : nth (winL xs i k) j = nth xs (i + j) := by
  unfold winL
  have h1 : j < ((xs.drop i).take (k - i)).length := by rw [List.length_take, List.length_drop]; omega
  rw [nth_of h1, nth_of (by omega), List.getElem_take, List.getElem_drop]

theorem Steps.neg {xs : List Int} (h : Steps xs) : Steps (negL xs) := ⟨fun x hx => by
  unfold negL at hx
  obtain ⟨y, hy, rfl⟩ := List.mem_map.1 hx
  have := h.1 y hy
  omega, by rw [negL_length]; exact h.2.1, by rw [negL_length]; exact h.2.2⟩

def PmOk (xs : List Int) (i k : Int) : Prop := Steps xs ∧ (0 ≤ i ∧ i ≤ (xs.length : Int) - 1) ∧ (i ≤ k ∧ k ≤ (xs.length : Int) - 1)

noncomputable instance (xs : List Int) (i k : Int) : Decidable (PmOk xs i k) := Classical.propDecidable _

theorem specValidSteps_ok {H : Heap} {a : AV} {xs : List Int} (ha : Ints H a xs) (hl : xs.length ≤ 1000000000) :
    ACalls Try.prog fn_spec_validSteps [a] H fun r H' => r = .bool (decide (Steps xs)) ∧ H' = H := by
  refine ACalls.val ?_ rfl
  refine code_spec_validSteps.go [.roI a xs.length xs] ⟨⟨rfl, ha⟩, trivial⟩ (by simp) ?_
  unfold mc_spec_validSteps
  have no : (Steps xs → False) → decide (Steps xs) = false := fun h => decide_eq_false h
  (repeat (first | refine gst (hk := ?_) | (show GO _ _ _ _ _ (⟨some _, none, .call _ _⟩ :: _) _; first | (show GO _ _ _ _ _ (⟨some _, none, .call fn_spec_inRange _⟩ :: _) _; refine go_inRange (hk := ?_); try intro u)) | (show GO _ _ _ _ _ (⟨some _, none, _⟩ :: _) _; first | refine go_op (hk := ?_) | (refine go_nw (hk := ?_); intro u; try simp only [llc, lln, lna, lza]) | (refine go_np (hk := ?_); intro id)) | (show GO _ _ _ _ _ (⟨none, none, _⟩ :: _) _; refine go_st (hk := ?_)) | (show GO _ _ _ _ _ (⟨_, some _, _⟩ :: _) _; first | refine go_in (hk := ?_) | refine go_out (hk := ?_) | refine go_void (hk := ?_)) | (show GK _ _ _ _ (blockK _ _ _); refine gk_past rfl ?_) | (show GC _ _ _ _ _ (.cond _ _ _) _; first | refine gc_yes (h1 := ?_) | refine gc_no (h1 := ?_))))
  refine gc_loop (γ := Nat) (fun i => [(0, a), (3, .int .i64 (i : Int))]) (fun _ => [.roI a xs.length xs]) (fun i => i ≤ xs.length ∧ ∀ j, j < i → -30 ≤ nth xs j ∧ nth xs j ≤ 30) (fun i => xs.length - i) 0 ⟨Nat.zero_le _, fun k hk => by omega⟩ (hb := ?_)
  rintro i ⟨hi, hp⟩ I ν m hk
  (repeat (first | refine gst (hk := ?_) | (show GO _ _ _ _ _ (⟨some _, none, .call _ _⟩ :: _) _; first | (show GO _ _ _ _ _ (⟨some _, none, .call fn_spec_inRange _⟩ :: _) _; refine go_inRange (hk := ?_); try intro u)) | (show GO _ _ _ _ _ (⟨some _, none, _⟩ :: _) _; first | refine go_op (hk := ?_) | (refine go_nw (hk := ?_); intro u; try simp only [llc, lln, lna, lza]) | (refine go_np (hk := ?_); intro id)) | (show GO _ _ _ _ _ (⟨none, none, _⟩ :: _) _; refine go_st (hk := ?_)) | (show GO _ _ _ _ _ (⟨_, some _, _⟩ :: _) _; first | refine go_in (hk := ?_) | refine go_out (hk := ?_) | refine go_void (hk := ?_)) | (show GK _ _ _ _ (blockK _ _ _); refine gk_past rfl ?_) | (show GC _ _ _ _ _ (.cond _ _ _) _; first | refine gc_yes (h1 := ?_) | refine gc_no (h1 := ?_))))
  refine gc_cond rfl (fun h => ?_) (fun h => ?_)
  · (repeat (first | refine gst (hk := ?_) | (show GO _ _ _ _ _ (⟨some _, none, .call _ _⟩ :: _) _; first | (show GO _ _ _ _ _ (⟨some _, none, .call fn_spec_inRange _⟩ :: _) _; refine go_inRange (hk := ?_); try intro u)) | (show GO _ _ _ _ _ (⟨some _, none, _⟩ :: _) _; first | refine go_op (hk := ?_) | (refine go_nw (hk := ?_); intro u; try simp only [llc, lln, lna, lza]) | (refine go_np (hk := ?_); intro id)) | (show GO _ _ _ _ _ (⟨none, none, _⟩ :: _) _; refine go_st (hk := ?_)) | (show GO _ _ _ _ _ (⟨_, some _, _⟩ :: _) _; first | refine go_in (hk := ?_) | refine go_out (hk := ?_) | refine go_void (hk := ?_)) | (show GK _ _ _ _ (blockK _ _ _); refine gk_past rfl ?_) | (show GC _ _ _ _ _ (.cond _ _ _) _; first | refine gc_yes (h1 := ?_) | refine gc_no (h1 := ?_))))
    refine gc_cond rfl (fun h2 => ?_) (fun h2 => ?_)
    · (repeat (first | refine gst (hk := ?_) | (show GO _ _ _ _ _ (⟨some _, none, .call _ _⟩ :: _) _; first | (show GO _ _ _ _ _ (⟨some _, none, .call fn_spec_inRange _⟩ :: _) _; refine go_inRange (hk := ?_); try intro u)) | (show GO _ _ _ _ _ (⟨some _, none, _⟩ :: _) _; first | refine go_op (hk := ?_) | (refine go_nw (hk := ?_); intro u; try simp only [llc, lln, lna, lza]) | (refine go_np (hk := ?_); intro id)) | (show GO _ _ _ _ _ (⟨none, none, _⟩ :: _) _; refine go_st (hk := ?_)) | (show GO _ _ _ _ _ (⟨_, some _, _⟩ :: _) _; first | refine go_in (hk := ?_) | refine go_out (hk := ?_) | refine go_void (hk := ?_)) | (show GK _ _ _ _ (blockK _ _ _); refine gk_past rfl ?_) | (show GC _ _ _ _ _ (.cond _ _ _) _; first | refine gc_yes (h1 := ?_) | refine gc_no (h1 := ?_))))
      exact gk_ret rfl fun H' hH => ⟨by rw [no fun hL => h2 (hL.x i)]; rfl, hH.leE⟩
    · (repeat (first | refine gst (hk := ?_) | (show GO _ _ _ _ _ (⟨some _, none, .call _ _⟩ :: _) _; first | (show GO _ _ _ _ _ (⟨some _, none, .call fn_spec_inRange _⟩ :: _) _; refine go_inRange (hk := ?_); try intro u)) | (show GO _ _ _ _ _ (⟨some _, none, _⟩ :: _) _; first | refine go_op (hk := ?_) | (refine go_nw (hk := ?_); intro u; try simp only [llc, lln, lna, lza]) | (refine go_np (hk := ?_); intro id)) | (show GO _ _ _ _ _ (⟨none, none, _⟩ :: _) _; refine go_st (hk := ?_)) | (show GO _ _ _ _ _ (⟨_, some _, _⟩ :: _) _; first | refine go_in (hk := ?_) | refine go_out (hk := ?_) | refine go_void (hk := ?_)) | (show GK _ _ _ _ (blockK _ _ _); refine gk_past rfl ?_) | (show GC _ _ _ _ _ (.cond _ _ _) _; first | refine gc_yes (h1 := ?_) | refine gc_no (h1 := ?_))))
      refine gk_next (hk (i + 1) ⟨by omega, fun j hj => ?_⟩ (by omega))
      rcases Nat.lt_or_ge j i with h4 | h4
      · exact hp j h4
      · rw [show j = i by omega]; exact Decidable.not_not.1 h2
  · obtain rfl : i = xs.length := by omega
    have h6 : Bd 30 xs := fun x hx => by
      obtain ⟨m, hm, rfl⟩ := nth_ex hx
      exact hp m hm
    (repeat (first | refine gst (hk := ?_) | (show GO _ _ _ _ _ (⟨some _, none, .call _ _⟩ :: _) _; first | (show GO _ _ _ _ _ (⟨some _, none, .call fn_spec_inRange _⟩ :: _) _; refine go_inRange (hk := ?_); try intro u)) | (show GO _ _ _ _ _ (⟨some _, none, _⟩ :: _) _; first | refine go_op (hk := ?_) | (refine go_nw (hk := ?_); intro u; try simp only [llc, lln, lna, lza]) | (refine go_np (hk := ?_); intro id)) | (show GO _ _ _ _ _ (⟨none, none, _⟩ :: _) _; refine go_st (hk := ?_)) | (show GO _ _ _ _ _ (⟨_, some _, _⟩ :: _) _; first | refine go_in (hk := ?_) | refine go_out (hk := ?_) | refine go_void (hk := ?_)) | (show GK _ _ _ _ (blockK _ _ _); refine gk_past rfl ?_) | (show GC _ _ _ _ _ (.cond _ _ _) _; first | refine gc_yes (h1 := ?_) | refine gc_no (h1 := ?_))))
    exact gk_ret rfl fun H' hH => ⟨by
      simp only [tupleOf]; congr 1
      exact decide_eq_decide.2 ⟨fun h7 => ⟨h6, by omega, by omega⟩, fun h7 => ⟨by have := h7.2.1; omega, by have := h7.2.2; omega⟩⟩, hH.leE⟩

theorem specMiss_ok {H : Heap} {a : AV} {xs : List Int} {i k : Nat} (ha : Ints H a xs) (hS : Steps xs) (h1 : i < k) (h2 : k ≤ xs.length) :
    ACalls Try.prog fn_spec_miss [a, .int .i64 (i : Int), .int .i64 (k : Int)] H fun r H' => r = frV (pieR xs i k) ∧ H' = H := by
  refine ACalls.val ?_ rfl
  have hn := hS.2.2
  refine code_spec_miss.go [.roI a xs.length xs] ⟨⟨rfl, ha⟩, trivial⟩ (by simp) ?_
  unfold mc_spec_miss
  (repeat (first | refine gst (hk := ?_) | (with_reducible refine gc_drq ?_; intro _) | (show GO _ _ _ _ _ (⟨some _, none, _⟩ :: _) _; first | refine go_op (hk := ?_) | (refine go_nw (hk := ?_); intro u; try simp only [llc, lln, lna, lza]) | (refine go_np (hk := ?_); intro id)) | (show GQ _ _ _ _ _ _ _ (⟨some _, none, _⟩ :: _) _; first | refine gq_op (hk := ?_) | (refine gq_nw (hk := ?_); intro u; try simp only [llc, lln, lna, lza])) | (show GO _ _ _ _ _ (⟨none, none, _⟩ :: _) _; refine go_st (hk := ?_)) | (show GO _ _ _ _ _ (⟨_, some _, _⟩ :: _) _; first | refine go_in (hk := ?_) | refine go_out (hk := ?_) | refine go_void (hk := ?_)) | (show GQ _ _ _ _ _ _ _ (⟨_, some _, _⟩ :: _) _; first | refine gq_in (hk := ?_) | refine gq_out (hk := ?_) | refine gq_void (hk := ?_)) | (show GK _ _ _ _ (blockK _ _ _); refine gk_past rfl ?_) | (show GC _ _ _ _ _ (.cond _ _ _) _; first | refine gc_yes (h1 := ?_) | refine gc_no (h1 := ?_))))
  revert id; intro i6
  refine gc_up (k - i) (fun d => [(0, a), (2, .int .i64 (k : Int)), (6, .ptr i6 0), (7, .int .i64 ((k - i : Nat) : Int)), (8, .int .i64 (wsS xs i d)), (9, .int .i64 (wsQ xs i d)), (10, .int .i64 ((i + d : Nat) : Int))]) (fun _ => [cel0 i6, .roI a xs.length xs]) (hb := ?_)
  intro d hd I ν m hk
  obtain ⟨⟨a1, a2⟩, a3, a4⟩ := ws_bd hS.x i d
  (repeat (first | refine gst (hk := ?_) | (with_reducible refine gc_drq ?_; intro _) | (show GO _ _ _ _ _ (⟨some _, none, _⟩ :: _) _; first | refine go_op (hk := ?_) | (refine go_nw (hk := ?_); intro u; try simp only [llc, lln, lna, lza]) | (refine go_np (hk := ?_); intro id)) | (show GQ _ _ _ _ _ _ _ (⟨some _, none, _⟩ :: _) _; first | refine gq_op (hk := ?_) | (refine gq_nw (hk := ?_); intro u; try simp only [llc, lln, lna, lza])) | (show GO _ _ _ _ _ (⟨none, none, _⟩ :: _) _; refine go_st (hk := ?_)) | (show GO _ _ _ _ _ (⟨_, some _, _⟩ :: _) _; first | refine go_in (hk := ?_) | refine go_out (hk := ?_) | refine go_void (hk := ?_)) | (show GQ _ _ _ _ _ _ _ (⟨_, some _, _⟩ :: _) _; first | refine gq_in (hk := ?_) | refine gq_out (hk := ?_) | refine gq_void (hk := ?_)) | (show GK _ _ _ _ (blockK _ _ _); refine gk_past rfl ?_) | (show GC _ _ _ _ _ (.cond _ _ _) _; first | refine gc_yes (h1 := ?_) | refine gc_no (h1 := ?_))))
  refine gc_cond rfl (fun h => ?_) (fun h => ?_)
  · have hk := hk (by omega)
    have hx := hS.x (i + d)
    have m1 := absmul (k := nth xs (i + d)) (l := nth xs (i + d)) (A := 30) (B := 30) (by omega) (by omega) (by omega) (by omega)
    rw [show wsS xs i (d + 1) = wsS xs i d + nth xs (i + d) from rfl, show wsQ xs i (d + 1) = wsQ xs i d + nth xs (i + d) * nth xs (i + d) from rfl] at hk
    (repeat (first | refine gst (hk := ?_) | (with_reducible refine gc_drq ?_; intro _) | (show GO _ _ _ _ _ (⟨some _, none, _⟩ :: _) _; first | refine go_op (hk := ?_) | (refine go_nw (hk := ?_); intro u; try simp only [llc, lln, lna, lza]) | (refine go_np (hk := ?_); intro id)) | (show GQ _ _ _ _ _ _ _ (⟨some _, none, _⟩ :: _) _; first | refine gq_op (hk := ?_) | (refine gq_nw (hk := ?_); intro u; try simp only [llc, lln, lna, lza])) | (show GO _ _ _ _ _ (⟨none, none, _⟩ :: _) _; refine go_st (hk := ?_)) | (show GO _ _ _ _ _ (⟨_, some _, _⟩ :: _) _; first | refine go_in (hk := ?_) | refine go_out (hk := ?_) | refine go_void (hk := ?_)) | (show GQ _ _ _ _ _ _ _ (⟨_, some _, _⟩ :: _) _; first | refine gq_in (hk := ?_) | refine gq_out (hk := ?_) | refine gq_void (hk := ?_)) | (show GK _ _ _ _ (blockK _ _ _); refine gk_past rfl ?_) | (show GC _ _ _ _ _ (.cond _ _ _) _; first | refine gc_yes (h1 := ?_) | refine gc_no (h1 := ?_))))
    exact gk_next hk
  · obtain rfl : d = k - i := by omega
    have m1 := absmul (k := wsS xs i (k - i)) (l := wsS xs i (k - i)) (A := 240) (B := 240) (by omega) (by omega) (by omega) (by omega)
    have m2 : ((k - i : Nat) : Int) * wsQ xs i (k - i) ≤ 8 * 7200 := Int.mul_le_mul (by omega) (by omega) (by omega) (by omega)
    have m3 : 0 ≤ ((k - i : Nat) : Int) * wsQ xs i (k - i) := Int.mul_nonneg (by omega) (by omega)
    (repeat (first | refine gst (hk := ?_) | (with_reducible refine gc_drq ?_; intro _) | (show GO _ _ _ _ _ (⟨some _, none, _⟩ :: _) _; first | refine go_op (hk := ?_) | (refine go_nw (hk := ?_); intro u; try simp only [llc, lln, lna, lza]) | (refine go_np (hk := ?_); intro id)) | (show GQ _ _ _ _ _ _ _ (⟨some _, none, _⟩ :: _) _; first | refine gq_op (hk := ?_) | (refine gq_nw (hk := ?_); intro u; try simp only [llc, lln, lna, lza])) | (show GO _ _ _ _ _ (⟨none, none, _⟩ :: _) _; refine go_st (hk := ?_)) | (show GO _ _ _ _ _ (⟨_, some _, _⟩ :: _) _; first | refine go_in (hk := ?_) | refine go_out (hk := ?_) | refine go_void (hk := ?_)) | (show GQ _ _ _ _ _ _ _ (⟨_, some _, _⟩ :: _) _; first | refine gq_in (hk := ?_) | refine gq_out (hk := ?_) | refine gq_void (hk := ?_)) | (show GK _ _ _ _ (blockK _ _ _); refine gk_past rfl ?_) | (show GC _ _ _ _ _ (.cond _ _ _) _; first | refine gc_yes (h1 := ?_) | refine gc_no (h1 := ?_))))
    refine go_callp rfl code_spec_frac.callable (fun H hH => frac_ok (a := ((k - i : Nat) : Int) * wsQ xs i (k - i) - wsS xs i (k - i) * wsS xs i (k - i)) (b := ((k - i : Nat) : Int)) (by omega) (by omega) (by omega)) ?_
    rw [show ((((k - i : Nat) : Int) * wsQ xs i (k - i) - wsS xs i (k - i) * wsS xs i (k - i) : Int) : Rat) / (((k - i : Nat) : Int) : Rat) = pieR xs i k from rfl]
    (repeat (first | refine gst (hk := ?_) | (with_reducible refine gc_drq ?_; intro _) | (show GO _ _ _ _ _ (⟨some _, none, _⟩ :: _) _; first | refine go_op (hk := ?_) | (refine go_nw (hk := ?_); intro u; try simp only [llc, lln, lna, lza]) | (refine go_np (hk := ?_); intro id)) | (show GQ _ _ _ _ _ _ _ (⟨some _, none, _⟩ :: _) _; first | refine gq_op (hk := ?_) | (refine gq_nw (hk := ?_); intro u; try simp only [llc, lln, lna, lza])) | (show GO _ _ _ _ _ (⟨none, none, _⟩ :: _) _; refine go_st (hk := ?_)) | (show GO _ _ _ _ _ (⟨_, some _, _⟩ :: _) _; first | refine go_in (hk := ?_) | refine go_out (hk := ?_) | refine go_void (hk := ?_)) | (show GQ _ _ _ _ _ _ _ (⟨_, some _, _⟩ :: _) _; first | refine gq_in (hk := ?_) | refine gq_out (hk := ?_) | refine gq_void (hk := ?_)) | (show GK _ _ _ _ (blockK _ _ _); refine gk_past rfl ?_) | (show GC _ _ _ _ _ (.cond _ _ _) _; first | refine gc_yes (h1 := ?_) | refine gc_no (h1 := ?_))))
    exact gk_rets (rvs_c rfl (by exact Sel.auto) rfl rfl rvs_nil) fun H' hH => ⟨rfl, hH.leE⟩

theorem specPieceMiss_ok {H : Heap} {a : AV} {xs : List Int} {i k : Int} (ha : Ints H a xs) (hl : xs.length ≤ 1000000000) :
    ACalls Try.prog fn_spec_PieceMiss [a, .int .i64 i, .int .i64 k] H fun r H' => r = .tuple [opV (PmOk xs i k) (pieR xs i.toNat (k.toNat + 1)), .bool (decide (PmOk xs i k))] ∧ H' = H := by
  refine ACalls.val ?_ rfl
  refine code_spec_PieceMiss.go [.roI a xs.length xs] ⟨⟨rfl, ha⟩, trivial⟩ (by simp) ?_
  unfold mc_spec_PieceMiss
  have no : ¬ PmOk xs i k → AV.tuple [fr0, .bool false] = AV.tuple [opV (PmOk xs i k) (pieR xs i.toNat (k.toNat + 1)), .bool (decide (PmOk xs i k))] := fun h => by rw [opV_no h, decide_eq_false h]
  (repeat (first | refine gst (hk := ?_) | (show GO _ _ _ _ _ (⟨some _, none, .call _ _⟩ :: _) _; first | (show GO _ _ _ _ _ (⟨some _, none, .call fn_spec_inRange _⟩ :: _) _; refine go_inRange (hk := ?_); try intro u)) | (show GO _ _ _ _ _ (⟨some _, none, _⟩ :: _) _; first | refine go_op (hk := ?_) | (refine go_nw (hk := ?_); intro u; try simp only [llc, lln, lna, lza]) | (refine go_np (hk := ?_); intro id)) | (show GO _ _ _ _ _ (⟨none, none, _⟩ :: _) _; refine go_st (hk := ?_)) | (show GO _ _ _ _ _ (⟨_, some _, _⟩ :: _) _; first | refine go_in (hk := ?_) | refine go_out (hk := ?_) | refine go_void (hk := ?_)) | (show GK _ _ _ _ (blockK _ _ _); refine gk_past rfl ?_) | (show GC _ _ _ _ _ (.cond _ _ _) _; first | refine gc_yes (h1 := ?_) | refine gc_no (h1 := ?_))))
  refine go_callp rfl code_spec_validSteps.callable (fun H hH => specValidSteps_ok (hH.ints (by exact Has.auto)) hl) ?_
  (repeat (first | refine gst (hk := ?_) | (show GO _ _ _ _ _ (⟨some _, none, .call _ _⟩ :: _) _; first | (show GO _ _ _ _ _ (⟨some _, none, .call fn_spec_inRange _⟩ :: _) _; refine go_inRange (hk := ?_); try intro u)) | (show GO _ _ _ _ _ (⟨some _, none, _⟩ :: _) _; first | refine go_op (hk := ?_) | (refine go_nw (hk := ?_); intro u; try simp only [llc, lln, lna, lza]) | (refine go_np (hk := ?_); intro id)) | (show GO _ _ _ _ _ (⟨none, none, _⟩ :: _) _; refine go_st (hk := ?_)) | (show GO _ _ _ _ _ (⟨_, some _, _⟩ :: _) _; first | refine go_in (hk := ?_) | refine go_out (hk := ?_) | refine go_void (hk := ?_)) | (show GK _ _ _ _ (blockK _ _ _); refine gk_past rfl ?_) | (show GC _ _ _ _ _ (.cond _ _ _) _; first | refine gc_yes (h1 := ?_) | refine gc_no (h1 := ?_))))
  refine go_split 11 rfl (fun h1 => ?_) (fun h1 => ?_)
  · (repeat (first | refine gst (hk := ?_) | (show GO _ _ _ _ _ (⟨some _, none, .call _ _⟩ :: _) _; first | (show GO _ _ _ _ _ (⟨some _, none, .call fn_spec_inRange _⟩ :: _) _; refine go_inRange (hk := ?_); try intro u)) | (show GO _ _ _ _ _ (⟨some _, none, _⟩ :: _) _; first | refine go_op (hk := ?_) | (refine go_nw (hk := ?_); intro u; try simp only [llc, lln, lna, lza]) | (refine go_np (hk := ?_); intro id)) | (show GO _ _ _ _ _ (⟨none, none, _⟩ :: _) _; refine go_st (hk := ?_)) | (show GO _ _ _ _ _ (⟨_, some _, _⟩ :: _) _; first | refine go_in (hk := ?_) | refine go_out (hk := ?_) | refine go_void (hk := ?_)) | (show GK _ _ _ _ (blockK _ _ _); refine gk_past rfl ?_) | (show GC _ _ _ _ _ (.cond _ _ _) _; first | refine gc_yes (h1 := ?_) | refine gc_no (h1 := ?_))))
    exact gk_rets (rvs_c rfl (by exact Sel.auto) rfl rfl (rvs_t rfl rvs_nil)) fun H' hH => ⟨no fun h => h1 h.1, hH.leE⟩
  have hS := Decidable.not_not.1 h1
  (repeat (first | refine gst (hk := ?_) | (show GO _ _ _ _ _ (⟨some _, none, .call _ _⟩ :: _) _; first | (show GO _ _ _ _ _ (⟨some _, none, .call fn_spec_inRange _⟩ :: _) _; refine go_inRange (hk := ?_); try intro u)) | (show GO _ _ _ _ _ (⟨some _, none, _⟩ :: _) _; first | refine go_op (hk := ?_) | (refine go_nw (hk := ?_); intro u; try simp only [llc, lln, lna, lza]) | (refine go_np (hk := ?_); intro id)) | (show GO _ _ _ _ _ (⟨none, none, _⟩ :: _) _; refine go_st (hk := ?_)) | (show GO _ _ _ _ _ (⟨_, some _, _⟩ :: _) _; first | refine go_in (hk := ?_) | refine go_out (hk := ?_) | refine go_void (hk := ?_)) | (show GK _ _ _ _ (blockK _ _ _); refine gk_past rfl ?_) | (show GC _ _ _ _ _ (.cond _ _ _) _; first | refine gc_yes (h1 := ?_) | refine gc_no (h1 := ?_))))
  refine go_split 19 rfl (fun h2 => ?_) (fun h2 => ?_)
  · (repeat (first | refine gst (hk := ?_) | (show GO _ _ _ _ _ (⟨some _, none, .call _ _⟩ :: _) _; first | (show GO _ _ _ _ _ (⟨some _, none, .call fn_spec_inRange _⟩ :: _) _; refine go_inRange (hk := ?_); try intro u)) | (show GO _ _ _ _ _ (⟨some _, none, _⟩ :: _) _; first | refine go_op (hk := ?_) | (refine go_nw (hk := ?_); intro u; try simp only [llc, lln, lna, lza]) | (refine go_np (hk := ?_); intro id)) | (show GO _ _ _ _ _ (⟨none, none, _⟩ :: _) _; refine go_st (hk := ?_)) | (show GO _ _ _ _ _ (⟨_, some _, _⟩ :: _) _; first | refine go_in (hk := ?_) | refine go_out (hk := ?_) | refine go_void (hk := ?_)) | (show GK _ _ _ _ (blockK _ _ _); refine gk_past rfl ?_) | (show GC _ _ _ _ _ (.cond _ _ _) _; first | refine gc_yes (h1 := ?_) | refine gc_no (h1 := ?_))))
    exact gk_rets (rvs_c rfl (by exact Sel.auto) rfl rfl (rvs_t rfl rvs_nil)) fun H' hH => ⟨no fun h => h2 h.2.1, hH.leE⟩
  have h3 := Decidable.not_not.1 h2
  (repeat (first | refine gst (hk := ?_) | (show GO _ _ _ _ _ (⟨some _, none, .call _ _⟩ :: _) _; first | (show GO _ _ _ _ _ (⟨some _, none, .call fn_spec_inRange _⟩ :: _) _; refine go_inRange (hk := ?_); try intro u)) | (show GO _ _ _ _ _ (⟨some _, none, _⟩ :: _) _; first | refine go_op (hk := ?_) | (refine go_nw (hk := ?_); intro u; try simp only [llc, lln, lna, lza]) | (refine go_np (hk := ?_); intro id)) | (show GO _ _ _ _ _ (⟨none, none, _⟩ :: _) _; refine go_st (hk := ?_)) | (show GO _ _ _ _ _ (⟨_, some _, _⟩ :: _) _; first | refine go_in (hk := ?_) | refine go_out (hk := ?_) | refine go_void (hk := ?_)) | (show GK _ _ _ _ (blockK _ _ _); refine gk_past rfl ?_) | (show GC _ _ _ _ _ (.cond _ _ _) _; first | refine gc_yes (h1 := ?_) | refine gc_no (h1 := ?_))))
  refine gc_cond rfl (fun h4 => ?_) (fun h4 => ?_)
  · (repeat (first | refine gst (hk := ?_) | (show GO _ _ _ _ _ (⟨some _, none, .call _ _⟩ :: _) _; first | (show GO _ _ _ _ _ (⟨some _, none, .call fn_spec_inRange _⟩ :: _) _; refine go_inRange (hk := ?_); try intro u)) | (show GO _ _ _ _ _ (⟨some _, none, _⟩ :: _) _; first | refine go_op (hk := ?_) | (refine go_nw (hk := ?_); intro u; try simp only [llc, lln, lna, lza]) | (refine go_np (hk := ?_); intro id)) | (show GO _ _ _ _ _ (⟨none, none, _⟩ :: _) _; refine go_st (hk := ?_)) | (show GO _ _ _ _ _ (⟨_, some _, _⟩ :: _) _; first | refine go_in (hk := ?_) | refine go_out (hk := ?_) | refine go_void (hk := ?_)) | (show GK _ _ _ _ (blockK _ _ _); refine gk_past rfl ?_) | (show GC _ _ _ _ _ (.cond _ _ _) _; first | refine gc_yes (h1 := ?_) | refine gc_no (h1 := ?_))))
    exact gk_rets (rvs_c rfl (by exact Sel.auto) rfl rfl (rvs_t rfl rvs_nil)) fun H' hH => ⟨no fun h => h4 h.2.2, hH.leE⟩
  have h5 := Decidable.not_not.1 h4
  rw [opV_yes ⟨hS, h3, h5⟩, decide_eq_true (show PmOk xs i k from ⟨hS, h3, h5⟩)]
  have ei : i = ((i.toNat : Nat) : Int) := by omega
  have ek : k = ((k.toNat : Nat) : Int) := by omega
  rw [ei, ek]
  simp only [Int.toNat_natCast]
  generalize i.toNat = i' at *
  generalize k.toNat = k' at *
  (repeat (first | refine gst (hk := ?_) | (show GO _ _ _ _ _ (⟨some _, none, .call _ _⟩ :: _) _; first | (show GO _ _ _ _ _ (⟨some _, none, .call fn_spec_inRange _⟩ :: _) _; refine go_inRange (hk := ?_); try intro u)) | (show GO _ _ _ _ _ (⟨some _, none, _⟩ :: _) _; first | refine go_op (hk := ?_) | (refine go_nw (hk := ?_); intro u; try simp only [llc, lln, lna, lza]) | (refine go_np (hk := ?_); intro id)) | (show GO _ _ _ _ _ (⟨none, none, _⟩ :: _) _; refine go_st (hk := ?_)) | (show GO _ _ _ _ _ (⟨_, some _, _⟩ :: _) _; first | refine go_in (hk := ?_) | refine go_out (hk := ?_) | refine go_void (hk := ?_)) | (show GK _ _ _ _ (blockK _ _ _); refine gk_past rfl ?_) | (show GC _ _ _ _ _ (.cond _ _ _) _; first | refine gc_yes (h1 := ?_) | refine gc_no (h1 := ?_))))
  refine go_callp rfl code_spec_miss.callable (fun H hH => specMiss_ok (i := i') (k := k' + 1) (hH.ints (by exact Has.auto)) hS (by omega) (by omega)) ?_
  (repeat (first | refine gst (hk := ?_) | (show GO _ _ _ _ _ (⟨some _, none, .call _ _⟩ :: _) _; first | (show GO _ _ _ _ _ (⟨some _, none, .call fn_spec_inRange _⟩ :: _) _; refine go_inRange (hk := ?_); try intro u)) | (show GO _ _ _ _ _ (⟨some _, none, _⟩ :: _) _; first | refine go_op (hk := ?_) | (refine go_nw (hk := ?_); intro u; try simp only [llc, lln, lna, lza]) | (refine go_np (hk := ?_); intro id)) | (show GO _ _ _ _ _ (⟨none, none, _⟩ :: _) _; refine go_st (hk := ?_)) | (show GO _ _ _ _ _ (⟨_, some _, _⟩ :: _) _; first | refine go_in (hk := ?_) | refine go_out (hk := ?_) | refine go_void (hk := ?_)) | (show GK _ _ _ _ (blockK _ _ _); refine gk_past rfl ?_) | (show GC _ _ _ _ _ (.cond _ _ _) _; first | refine gc_yes (h1 := ?_) | refine gc_no (h1 := ?_))))
  exact gk_rets (rvs_c rfl (by exact Sel.auto) rfl rfl (rvs_t rfl rvs_nil)) fun H' hH => ⟨rfl, hH.leE⟩

theorem fit9 {p q : Rat} (hp : FD p 840 2000000000) (hq : FD q 840 2000000000) : FitA p q := fitA_of hp hq (by omega) (by omega) (by omega)

theorem Steps.pie_fd {xs : List Int} (h : Steps xs) {i k : Nat} (h1 : i < k) (h2 : k ≤ xs.length) : FD (pieR xs i k) 840 96768000 := by
  have hn := h.2.2
  exact pie_fd2 h.x h1 (by omega)

theorem win_len2 {xs : List Int} {i k : Nat} (h : k ≤ xs.length) : (winL xs i k).length = k - i := by
  unfold winL; rw [List.length_take, List.length_drop]; omega

theorem stepList_ok {A : Heap} {X : List Nat} {S S0 : Sig} {H : Heap} {id p : Nat} {bv : AV} {bs : List Int} (hS : SOk A X S H.size H) (hs : Sel S (rdr id bv p) S0) (hR : SubF S0 [byt bv bs]) (hb : ByteOk bs) (hp : p ≤ 1000000) :
    ACalls Try.prog fn_spec_stepList [.ptr id 0] H fun r H' => ∃ g : DG, r = g.u ∧ SOk A X (.rwI g.u g.xs.length g.xs :: rdr id bv g.q :: S0) H'.size H' ∧ g.xs.length ≤ 21 ∧ Bd 1000 g.xs ∧ g.q ≤ p + 50 := by
  refine code_spec_stepList.gowg (V := DG.u) (T := fun g => [.rwI g.u g.xs.length g.xs]) (C := fun g => rdr id bv g.q) (Φ := fun g => g.xs.length ≤ 21 ∧ Bd 1000 g.xs ∧ g.q ≤ p + 50) hS hs rfl hR rfl (fun _ => rfl) (fun _ => rfl) (fun _ => rfl) (by simp) ?_
  intro X'
  unfold mc_spec_stepList
  (repeat (first | refine gst (hk := ?_) | (show GO _ _ _ _ _ (⟨some _, none, .call _ _⟩ :: _) _; first | (refine go_callg rfl code_spec_reader_one.callable (fun H hH => one_ok hH (by exact Sel.auto) (by exact SubF.auto) (by rfl) (by assumption) (by omega) (by first | omega | decide) (by first | omega | decide)) ?_; intro g hg) | (refine go_callg rfl code_spec_reader_pick.callable (fun H hH => pick_ok hH (by exact Sel.auto) (by exact SubF.auto) (by assumption) (by omega)) ?_; intro g hg)) | (show GO _ _ _ _ _ (⟨some _, none, _⟩ :: _) _; first | refine go_op (hk := ?_) | (refine go_nw (hk := ?_); intro u; try simp only [llc, lln, lna, lza]) | (refine go_np (hk := ?_); intro id)) | (show GO _ _ _ _ _ (⟨none, none, _⟩ :: _) _; refine go_st (hk := ?_)) | (show GO _ _ _ _ _ (⟨_, some _, _⟩ :: _) _; first | refine go_in (hk := ?_) | refine go_out (hk := ?_) | refine go_void (hk := ?_)) | (show GK _ _ _ _ (blockK _ _ _); refine gk_past rfl ?_) | (show GC _ _ _ _ _ (.cond _ _ _) _; first | refine gc_yes (h1 := ?_) | refine gc_no (h1 := ?_))))
  rename_i u3
  obtain ⟨n, rfl⟩ : ∃ z, z = g := ⟨g, rfl⟩
  have hn7 : n ≤ 8 := by simp only [List.mem_cons, List.not_mem_nil, or_false] at hg; omega
  clear hg
  refine gc_loop (γ := DG × Int) (fun t => [(0, .ptr id 0), (3, t.1.u), (4, .int .i64 t.2), (5, .int .i64 n)]) (fun t => [.rwI t.1.u t.1.xs.length t.1.xs, rdr id bv t.1.q, byt bv bs]) (fun t => t.1.xs.length ≤ 8 ∧ Bd 1000 t.1.xs ∧ (-15 ≤ t.2 ∧ t.2 ≤ 15) ∧ t.1.q ≤ p + 1 + 3 * t.1.xs.length) (fun t => 8 - t.1.xs.length) (⟨u3, [], p + 1⟩, 0) ⟨by simp, fun x hx => by simp at hx, by simp, by simp⟩ (hb := ?_)
  rintro ⟨⟨w3, xs, q⟩, h0⟩ ⟨h1, h3, h4, h5⟩ I ν m hk
  simp only at h1 h3 h4 h5 hk ⊢
  (repeat (first | refine gst (hk := ?_) | (show GO _ _ _ _ _ (⟨some _, none, .call _ _⟩ :: _) _; first | (refine go_callg rfl code_spec_reader_one.callable (fun H hH => one_ok hH (by exact Sel.auto) (by exact SubF.auto) (by rfl) (by assumption) (by omega) (by first | omega | decide) (by first | omega | decide)) ?_; intro g hg) | (refine go_callg rfl code_spec_reader_pick.callable (fun H hH => pick_ok hH (by exact Sel.auto) (by exact SubF.auto) (by assumption) (by omega)) ?_; intro g hg)) | (show GO _ _ _ _ _ (⟨some _, none, _⟩ :: _) _; first | refine go_op (hk := ?_) | (refine go_nw (hk := ?_); intro u; try simp only [llc, lln, lna, lza]) | (refine go_np (hk := ?_); intro id)) | (show GO _ _ _ _ _ (⟨none, none, _⟩ :: _) _; refine go_st (hk := ?_)) | (show GO _ _ _ _ _ (⟨_, some _, _⟩ :: _) _; first | refine go_in (hk := ?_) | refine go_out (hk := ?_) | refine go_void (hk := ?_)) | (show GK _ _ _ _ (blockK _ _ _); refine gk_past rfl ?_) | (show GC _ _ _ _ _ (.cond _ _ _) _; first | refine gc_yes (h1 := ?_) | refine gc_no (h1 := ?_))))
  refine gc_cond rfl (fun h6 => ?_) (fun h6 => ?_)
  · (repeat (first | refine gst (hk := ?_) | (show GO _ _ _ _ _ (⟨some _, none, .call _ _⟩ :: _) _; first | (refine go_callg rfl code_spec_reader_one.callable (fun H hH => one_ok hH (by exact Sel.auto) (by exact SubF.auto) (by rfl) (by assumption) (by omega) (by first | omega | decide) (by first | omega | decide)) ?_; intro g hg) | (refine go_callg rfl code_spec_reader_pick.callable (fun H hH => pick_ok hH (by exact Sel.auto) (by exact SubF.auto) (by assumption) (by omega)) ?_; intro g hg)) | (show GO _ _ _ _ _ (⟨some _, none, _⟩ :: _) _; first | refine go_op (hk := ?_) | (refine go_nw (hk := ?_); intro u; try simp only [llc, lln, lna, lza]) | (refine go_np (hk := ?_); intro id)) | (show GO _ _ _ _ _ (⟨none, none, _⟩ :: _) _; refine go_st (hk := ?_)) | (show GO _ _ _ _ _ (⟨_, some _, _⟩ :: _) _; first | refine go_in (hk := ?_) | refine go_out (hk := ?_) | refine go_void (hk := ?_)) | (show GK _ _ _ _ (blockK _ _ _); refine gk_past rfl ?_) | (show GC _ _ _ _ _ (.cond _ _ _) _; first | refine gc_yes (h1 := ?_) | refine gc_no (h1 := ?_))))
    refine gc_cond rfl (fun h7 => ?_) (fun h7 => ?_)
    · (repeat (first | refine gst (hk := ?_) | (show GO _ _ _ _ _ (⟨some _, none, .call _ _⟩ :: _) _; first | (refine go_callg rfl code_spec_reader_one.callable (fun H hH => one_ok hH (by exact Sel.auto) (by exact SubF.auto) (by rfl) (by assumption) (by omega) (by first | omega | decide) (by first | omega | decide)) ?_; intro g hg) | (refine go_callg rfl code_spec_reader_pick.callable (fun H hH => pick_ok hH (by exact Sel.auto) (by exact SubF.auto) (by assumption) (by omega)) ?_; intro g hg)) | (show GO _ _ _ _ _ (⟨some _, none, _⟩ :: _) _; first | refine go_op (hk := ?_) | (refine go_nw (hk := ?_); intro u; try simp only [llc, lln, lna, lza]) | (refine go_np (hk := ?_); intro id)) | (show GO _ _ _ _ _ (⟨none, none, _⟩ :: _) _; refine go_st (hk := ?_)) | (show GO _ _ _ _ _ (⟨_, some _, _⟩ :: _) _; first | refine go_in (hk := ?_) | refine go_out (hk := ?_) | refine go_void (hk := ?_)) | (show GK _ _ _ _ (blockK _ _ _); refine gk_past rfl ?_) | (show GC _ _ _ _ _ (.cond _ _ _) _; first | refine gc_yes (h1 := ?_) | refine gc_no (h1 := ?_))))
      rename_i p1 hp1 p2 hp2 ua
      have hx : -1000 ≤ p2 - 15 + g ∧ p2 - 15 + g ≤ 1000 := by omega
      have hk := hk (⟨u, xs ++ [p2 - 15 + g], q + 1 + 1 + 1⟩, p2 - 15) ⟨by simp; omega, h3.app (Bd.one hx), by simp only; omega, by simp only [List.length_append, List.length_cons, List.length_nil]; omega⟩ (by simp; omega)
      simp only [List.length_append, List.length_cons, List.length_nil, Nat.zero_add] at hk
      exact gk_next hk
    · (repeat (first | refine gst (hk := ?_) | (show GO _ _ _ _ _ (⟨some _, none, .call _ _⟩ :: _) _; first | (refine go_callg rfl code_spec_reader_one.callable (fun H hH => one_ok hH (by exact Sel.auto) (by exact SubF.auto) (by rfl) (by assumption) (by omega) (by first | omega | decide) (by first | omega | decide)) ?_; intro g hg) | (refine go_callg rfl code_spec_reader_pick.callable (fun H hH => pick_ok hH (by exact Sel.auto) (by exact SubF.auto) (by assumption) (by omega)) ?_; intro g hg)) | (show GO _ _ _ _ _ (⟨some _, none, _⟩ :: _) _; first | refine go_op (hk := ?_) | (refine go_nw (hk := ?_); intro u; try simp only [llc, lln, lna, lza]) | (refine go_np (hk := ?_); intro id)) | (show GO _ _ _ _ _ (⟨none, none, _⟩ :: _) _; refine go_st (hk := ?_)) | (show GO _ _ _ _ _ (⟨_, some _, _⟩ :: _) _; first | refine go_in (hk := ?_) | refine go_out (hk := ?_) | refine go_void (hk := ?_)) | (show GK _ _ _ _ (blockK _ _ _); refine gk_past rfl ?_) | (show GC _ _ _ _ _ (.cond _ _ _) _; first | refine gc_yes (h1 := ?_) | refine gc_no (h1 := ?_))))
      rename_i p1 hp1 ua
      have hx : -1000 ≤ h0 + g ∧ h0 + g ≤ 1000 := by omega
      have hk := hk (⟨u, xs ++ [h0 + g], q + 1 + 1⟩, h0) ⟨by simp; omega, h3.app (Bd.one hx), by simp only; omega, by simp only [List.length_append, List.length_cons, List.length_nil]; omega⟩ (by simp; omega)
      simp only [List.length_append, List.length_cons, List.length_nil, Nat.zero_add] at hk
      exact gk_next hk
  (repeat (first | refine gst (hk := ?_) | (show GO _ _ _ _ _ (⟨some _, none, .call _ _⟩ :: _) _; first | (refine go_callg rfl code_spec_reader_one.callable (fun H hH => one_ok hH (by exact Sel.auto) (by exact SubF.auto) (by rfl) (by assumption) (by omega) (by first | omega | decide) (by first | omega | decide)) ?_; intro g hg) | (refine go_callg rfl code_spec_reader_pick.callable (fun H hH => pick_ok hH (by exact Sel.auto) (by exact SubF.auto) (by assumption) (by omega)) ?_; intro g hg)) | (show GO _ _ _ _ _ (⟨some _, none, _⟩ :: _) _; first | refine go_op (hk := ?_) | (refine go_nw (hk := ?_); intro u; try simp only [llc, lln, lna, lza]) | (refine go_np (hk := ?_); intro id)) | (show GO _ _ _ _ _ (⟨none, none, _⟩ :: _) _; refine go_st (hk := ?_)) | (show GO _ _ _ _ _ (⟨_, some _, _⟩ :: _) _; first | refine go_in (hk := ?_) | refine go_out (hk := ?_) | refine go_void (hk := ?_)) | (show GK _ _ _ _ (blockK _ _ _); refine gk_past rfl ?_) | (show GC _ _ _ _ _ (.cond _ _ _) _; first | refine gc_yes (h1 := ?_) | refine gc_no (h1 := ?_))))
  refine gc_cond rfl (fun h7 => ?_) (fun h7 => ?_)
  · (repeat (first | refine gst (hk := ?_) | (show GO _ _ _ _ _ (⟨some _, none, .call _ _⟩ :: _) _; first | (refine go_callg rfl code_spec_reader_one.callable (fun H hH => one_ok hH (by exact Sel.auto) (by exact SubF.auto) (by rfl) (by assumption) (by omega) (by first | omega | decide) (by first | omega | decide)) ?_; intro g hg) | (refine go_callg rfl code_spec_reader_pick.callable (fun H hH => pick_ok hH (by exact Sel.auto) (by exact SubF.auto) (by assumption) (by omega)) ?_; intro g hg)) | (show GO _ _ _ _ _ (⟨some _, none, _⟩ :: _) _; first | refine go_op (hk := ?_) | (refine go_nw (hk := ?_); intro u; try simp only [llc, lln, lna, lza]) | (refine go_np (hk := ?_); intro id)) | (show GO _ _ _ _ _ (⟨none, none, _⟩ :: _) _; refine go_st (hk := ?_)) | (show GO _ _ _ _ _ (⟨_, some _, _⟩ :: _) _; first | refine go_in (hk := ?_) | refine go_out (hk := ?_) | refine go_void (hk := ?_)) | (show GK _ _ _ _ (blockK _ _ _); refine gk_past rfl ?_) | (show GC _ _ _ _ _ (.cond _ _ _) _; first | refine gc_yes (h1 := ?_) | refine gc_no (h1 := ?_))))
    refine gk_ret rfl fun H' hH => ⟨⟨u, xs ++ [31], q + 1⟩, rfl, ⟨by simp; omega, h3.app (Bd.one (by omega)), by simp only; omega⟩, ?_⟩
    show SOk H X' [.rwI u (xs ++ [31]).length (xs ++ [31]), rdr id bv (q + 1)] H'.size H'
    rw [show (xs ++ [(31 : Int)]).length = xs.length + 1 by simp]
    exact hH.sub (by exact Sub.auto)
  (repeat (first | refine gst (hk := ?_) | (show GO _ _ _ _ _ (⟨some _, none, .call _ _⟩ :: _) _; first | (refine go_callg rfl code_spec_reader_one.callable (fun H hH => one_ok hH (by exact Sel.auto) (by exact SubF.auto) (by rfl) (by assumption) (by omega) (by first | omega | decide) (by first | omega | decide)) ?_; intro g hg) | (refine go_callg rfl code_spec_reader_pick.callable (fun H hH => pick_ok hH (by exact Sel.auto) (by exact SubF.auto) (by assumption) (by omega)) ?_; intro g hg)) | (show GO _ _ _ _ _ (⟨some _, none, _⟩ :: _) _; first | refine go_op (hk := ?_) | (refine go_nw (hk := ?_); intro u; try simp only [llc, lln, lna, lza]) | (refine go_np (hk := ?_); intro id)) | (show GO _ _ _ _ _ (⟨none, none, _⟩ :: _) _; refine go_st (hk := ?_)) | (show GO _ _ _ _ _ (⟨_, some _, _⟩ :: _) _; first | refine go_in (hk := ?_) | refine go_out (hk := ?_) | refine go_void (hk := ?_)) | (show GK _ _ _ _ (blockK _ _ _); refine gk_past rfl ?_) | (show GC _ _ _ _ _ (.cond _ _ _) _; first | refine gc_yes (h1 := ?_) | refine gc_no (h1 := ?_))))
  refine gc_cond rfl (fun h8 => ?_) (fun h8 => ?_)
  · (repeat (first | refine gst (hk := ?_) | (show GO _ _ _ _ _ (⟨some _, none, .call _ _⟩ :: _) _; first | (refine go_callg rfl code_spec_reader_one.callable (fun H hH => one_ok hH (by exact Sel.auto) (by exact SubF.auto) (by rfl) (by assumption) (by omega) (by first | omega | decide) (by first | omega | decide)) ?_; intro g hg) | (refine go_callg rfl code_spec_reader_pick.callable (fun H hH => pick_ok hH (by exact Sel.auto) (by exact SubF.auto) (by assumption) (by omega)) ?_; intro g hg)) | (show GO _ _ _ _ _ (⟨some _, none, _⟩ :: _) _; first | refine go_op (hk := ?_) | (refine go_nw (hk := ?_); intro u; try simp only [llc, lln, lna, lza]) | (refine go_np (hk := ?_); intro id)) | (show GO _ _ _ _ _ (⟨none, none, _⟩ :: _) _; refine go_st (hk := ?_)) | (show GO _ _ _ _ _ (⟨_, some _, _⟩ :: _) _; first | refine go_in (hk := ?_) | refine go_out (hk := ?_) | refine go_void (hk := ?_)) | (show GK _ _ _ _ (blockK _ _ _); refine gk_past rfl ?_) | (show GC _ _ _ _ _ (.cond _ _ _) _; first | refine gc_yes (h1 := ?_) | refine gc_no (h1 := ?_))))
    refine gk_ret rfl fun H' hH => ⟨⟨u, xs ++ [1, 1, 1, 1, 1, 1, 1, 1, 1], q + 1⟩, rfl, ⟨by simp; omega, h3.app (fun x hx => by simp at hx; omega), by simp only; omega⟩, ?_⟩
    show SOk H X' [.rwI u (xs ++ [1, 1, 1, 1, 1, 1, 1, 1, 1]).length (xs ++ [1, 1, 1, 1, 1, 1, 1, 1, 1]), rdr id bv (q + 1)] H'.size H'
    rw [show (xs ++ [(1 : Int), 1, 1, 1, 1, 1, 1, 1, 1]).length = xs.length + 9 by simp]
    exact hH.sub (by exact Sub.auto)
  (repeat (first | refine gst (hk := ?_) | (show GO _ _ _ _ _ (⟨some _, none, .call _ _⟩ :: _) _; first | (refine go_callg rfl code_spec_reader_one.callable (fun H hH => one_ok hH (by exact Sel.auto) (by exact SubF.auto) (by rfl) (by assumption) (by omega) (by first | omega | decide) (by first | omega | decide)) ?_; intro g hg) | (refine go_callg rfl code_spec_reader_pick.callable (fun H hH => pick_ok hH (by exact Sel.auto) (by exact SubF.auto) (by assumption) (by omega)) ?_; intro g hg)) | (show GO _ _ _ _ _ (⟨some _, none, _⟩ :: _) _; first | refine go_op (hk := ?_) | (refine go_nw (hk := ?_); intro u; try simp only [llc, lln, lna, lza]) | (refine go_np (hk := ?_); intro id)) | (show GO _ _ _ _ _ (⟨none, none, _⟩ :: _) _; refine go_st (hk := ?_)) | (show GO _ _ _ _ _ (⟨_, some _, _⟩ :: _) _; first | refine go_in (hk := ?_) | refine go_out (hk := ?_) | refine go_void (hk := ?_)) | (show GK _ _ _ _ (blockK _ _ _); refine gk_past rfl ?_) | (show GC _ _ _ _ _ (.cond _ _ _) _; first | refine gc_yes (h1 := ?_) | refine gc_no (h1 := ?_))))
  exact gk_ret rfl fun H' hH => ⟨⟨w3, xs, q + 1⟩, rfl, ⟨by simp only; omega, h3, by simp only; omega⟩, hH.sub (by exact Sub.auto)⟩

theorem drawPieceMiss_ok {A : Heap} {X : List Nat} {S : Sig} {H : Heap} {cv : AV} {bs : List Int} (hS : SOk A X S H.size H) (hh : Has S cv 1 bs.length (bytesL bs)) (hb : ∀ i, 0 ≤ nth bs i ∧ nth bs i ≤ 255) (hl : bs.length ≤ 1048576) :
    ACalls Try.prog fn_spec_DrawPieceMiss [cv] H fun r H' => ∃ g : DG × Int × Int, r = .tuple [g.1.u, .int .i64 g.2.1, .int .i64 g.2.2] ∧ SOk A X (.rwI g.1.u g.1.xs.length g.1.xs :: S) H'.size H' ∧ g.1.xs.length ≤ 21 ∧ Bd 1000 g.1.xs ∧ (-1000 ≤ g.2.1 ∧ g.2.1 ≤ 1000) ∧ -1000 ≤ g.2.2 ∧ g.2.2 ≤ 1000 := by
  refine code_spec_DrawPieceMiss.gon (R := [byt cv bs]) (V := fun g : DG × Int × Int => .tuple [g.1.u, .int .i64 g.2.1, .int .i64 g.2.2]) (T := fun g => [.rwI g.1.u g.1.xs.length g.1.xs]) (Φ := fun g => g.1.xs.length ≤ 21 ∧ Bd 1000 g.1.xs ∧ (-1000 ≤ g.2.1 ∧ g.2.1 ≤ 1000) ∧ -1000 ≤ g.2.2 ∧ g.2.2 ≤ 1000) hS ⟨⟨rfl, hS.valsA hh⟩, trivial⟩ (fun _ => rfl) (by simp) ?_
  unfold mc_spec_DrawPieceMiss
  (repeat (first | refine gst (hk := ?_) | (show GO _ _ _ _ _ (⟨some _, none, .call _ _⟩ :: _) _; first | (refine go_callg rfl code_spec_newReader.callable (fun H hH => newReaderC_ok hH (c := ⟨.cell, .ptr _ 0, 4, 1, [_, _, _, _]⟩) Sel.head rfl (by exact Has.auto) (by assumption) (by omega)) ?_; intro g hg) | (refine go_callg rfl code_spec_newReader.callable (fun H hH => newReader_ok hH (by exact Has.auto) (by assumption) (by omega)) ?_; intro g hg) | (refine go_callg rfl code_spec_stepList.callable (fun H hH => stepList_ok hH (by exact Sel.auto) (by exact SubF.auto) (by assumption) (by omega)) ?_; intro g hg) | (refine go_callg rfl code_spec_reader_pick.callable (fun H hH => pick_ok hH (by exact Sel.auto) (by exact SubF.auto) (by assumption) (by omega)) ?_; intro g hg) | (refine go_callg rfl code_spec_reader_one.callable (fun H hH => one_ok hH (by exact Sel.auto) (by exact SubF.auto) (by rfl) (by assumption) (by omega) (by first | omega | decide) (by first | omega | decide)) ?_; intro g hg)) | (show GO _ _ _ _ _ (⟨some _, none, _⟩ :: _) _; first | refine go_op (hk := ?_) | (refine go_nw (hk := ?_); intro u; try simp only [llc, lln, lna, lza]) | (refine go_np (hk := ?_); intro id)) | (show GO _ _ _ _ _ (⟨none, none, _⟩ :: _) _; refine go_st (hk := ?_)) | (show GO _ _ _ _ _ (⟨_, some _, _⟩ :: _) _; first | refine go_in (hk := ?_) | refine go_out (hk := ?_) | refine go_void (hk := ?_)) | (show GK _ _ _ _ (blockK _ _ _); refine gk_past rfl ?_) | (show GC _ _ _ _ _ (.cond _ _ _) _; first | refine gc_yes (h1 := ?_) | refine gc_no (h1 := ?_))))
  rename_i r0 hr0 d hd p2 hp2 ua p4 hp4 p5 hp5
  obtain ⟨d1, d2, d3⟩ := hd
  simp only [List.mem_cons, List.not_mem_nil, or_false] at hg hp4
  exact gk_ret rfl fun H' hH => ⟨⟨d, p4, g⟩, rfl, ⟨d1, d2, ⟨by simp only; omega, by simp only; omega⟩, by simp only; omega, by simp only; omega⟩, hH.sub (by exact Sub.auto)⟩

theorem missedSquares_ok {H : Heap} {a : AV} {ys : List Int} (ha : Ints H a ys) (hb : ∀ j, -30 ≤ nth ys j ∧ nth ys j ≤ 30) (h1 : 1 ≤ ys.length) (h2 : ys.length ≤ 8) :
    ACalls Try.prog fn_impl_missedSquares [a] H fun r H' => r = frV (pieR ys 0 ys.length) ∧ H' = H := by
  refine ACalls.val ?_ rfl
  refine code_impl_missedSquares.go [.roI a ys.length ys] ⟨⟨rfl, ha⟩, trivial⟩ (by simp) ?_
  unfold mc_impl_missedSquares
  (repeat (first | refine gst (hk := ?_) | (show GO _ _ _ _ _ (⟨some _, none, _⟩ :: _) _; first | refine go_op (hk := ?_) | (refine go_nw (hk := ?_); intro u; try simp only [llc, lln, lna, lza]) | (refine go_np (hk := ?_); intro id)) | (show GO _ _ _ _ _ (⟨none, none, _⟩ :: _) _; refine go_st (hk := ?_)) | (show GO _ _ _ _ _ (⟨_, some _, _⟩ :: _) _; first | refine go_in (hk := ?_) | refine go_out (hk := ?_) | refine go_void (hk := ?_)) | (show GK _ _ _ _ (blockK _ _ _); refine gk_past rfl ?_) | (show GC _ _ _ _ _ (.cond _ _ _) _; first | refine gc_yes (h1 := ?_) | refine gc_no (h1 := ?_))))
  revert id; intro i2
  refine gc_up ys.length (fun d => [(0, a), (2, .ptr i2 0), (3, .int .i64 (wsS ys 0 d)), (4, .int .i64 (wsQ ys 0 d)), (7, a), (8, .int .i64 (ys.length : Int)), (9, .int .i64 (d : Int))]) (fun _ => [cel0 i2, .roI a ys.length ys]) (hb := ?_)
  intro d hd I ν m hk
  obtain ⟨⟨a1, a2⟩, a3, a4⟩ := ws_bd hb 0 d
  (repeat (first | refine gst (hk := ?_) | (show GO _ _ _ _ _ (⟨some _, none, _⟩ :: _) _; first | refine go_op (hk := ?_) | (refine go_nw (hk := ?_); intro u; try simp only [llc, lln, lna, lza]) | (refine go_np (hk := ?_); intro id)) | (show GO _ _ _ _ _ (⟨none, none, _⟩ :: _) _; refine go_st (hk := ?_)) | (show GO _ _ _ _ _ (⟨_, some _, _⟩ :: _) _; first | refine go_in (hk := ?_) | refine go_out (hk := ?_) | refine go_void (hk := ?_)) | (show GK _ _ _ _ (blockK _ _ _); refine gk_past rfl ?_) | (show GC _ _ _ _ _ (.cond _ _ _) _; first | refine gc_yes (h1 := ?_) | refine gc_no (h1 := ?_))))
  refine gc_cond rfl (fun h => ?_) (fun h => ?_)
  · have hk := hk (by omega)
    have hx := hb d
    have m1 := absmul (k := nth ys d) (l := nth ys d) (A := 30) (B := 30) (by omega) (by omega) (by omega) (by omega)
    rw [show wsS ys 0 (d + 1) = wsS ys 0 d + nth ys (0 + d) from rfl, show wsQ ys 0 (d + 1) = wsQ ys 0 d + nth ys (0 + d) * nth ys (0 + d) from rfl, Nat.zero_add] at hk
    (repeat (first | refine gst (hk := ?_) | (show GO _ _ _ _ _ (⟨some _, none, _⟩ :: _) _; first | refine go_op (hk := ?_) | (refine go_nw (hk := ?_); intro u; try simp only [llc, lln, lna, lza]) | (refine go_np (hk := ?_); intro id)) | (show GO _ _ _ _ _ (⟨none, none, _⟩ :: _) _; refine go_st (hk := ?_)) | (show GO _ _ _ _ _ (⟨_, some _, _⟩ :: _) _; first | refine go_in (hk := ?_) | refine go_out (hk := ?_) | refine go_void (hk := ?_)) | (show GK _ _ _ _ (blockK _ _ _); refine gk_past rfl ?_) | (show GC _ _ _ _ _ (.cond _ _ _) _; first | refine gc_yes (h1 := ?_) | refine gc_no (h1 := ?_))))
    exact gk_next hk
  · obtain rfl : d = ys.length := by omega
    have m1 := absmul (k := wsS ys 0 ys.length) (l := wsS ys 0 ys.length) (A := 240) (B := 240) (by omega) (by omega) (by omega) (by omega)
    have m2 : ((ys.length : Nat) : Int) * wsQ ys 0 ys.length ≤ 8 * 7200 := Int.mul_le_mul (by omega) (by omega) (by omega) (by omega)
    have m3 : 0 ≤ ((ys.length : Nat) : Int) * wsQ ys 0 ys.length := Int.mul_nonneg (by omega) (by omega)
    (repeat (first | refine gst (hk := ?_) | (show GO _ _ _ _ _ (⟨some _, none, _⟩ :: _) _; first | refine go_op (hk := ?_) | (refine go_nw (hk := ?_); intro u; try simp only [llc, lln, lna, lza]) | (refine go_np (hk := ?_); intro id)) | (show GO _ _ _ _ _ (⟨none, none, _⟩ :: _) _; refine go_st (hk := ?_)) | (show GO _ _ _ _ _ (⟨_, some _, _⟩ :: _) _; first | refine go_in (hk := ?_) | refine go_out (hk := ?_) | refine go_void (hk := ?_)) | (show GK _ _ _ _ (blockK _ _ _); refine gk_past rfl ?_) | (show GC _ _ _ _ _ (.cond _ _ _) _; first | refine gc_yes (h1 := ?_) | refine gc_no (h1 := ?_))))
    refine go_callp rfl code_impl_lowest.callable (fun H hH => lowest_ok (a := ((ys.length : Nat) : Int) * wsQ ys 0 ys.length - wsS ys 0 ys.length * wsS ys 0 ys.length) (b := ((ys.length : Nat) : Int)) (by omega) (by omega) (by omega)) ?_
    rw [show ((((ys.length : Nat) : Int) * wsQ ys 0 ys.length - wsS ys 0 ys.length * wsS ys 0 ys.length : Int) : Rat) / (((ys.length : Nat) : Int) : Rat) = pieR ys 0 ys.length from rfl]
    (repeat (first | refine gst (hk := ?_) | (show GO _ _ _ _ _ (⟨some _, none, _⟩ :: _) _; first | refine go_op (hk := ?_) | (refine go_nw (hk := ?_); intro u; try simp only [llc, lln, lna, lza]) | (refine go_np (hk := ?_); intro id)) | (show GO _ _ _ _ _ (⟨none, none, _⟩ :: _) _; refine go_st (hk := ?_)) | (show GO _ _ _ _ _ (⟨_, some _, _⟩ :: _) _; first | refine go_in (hk := ?_) | refine go_out (hk := ?_) | refine go_void (hk := ?_)) | (show GK _ _ _ _ (blockK _ _ _); refine gk_past rfl ?_) | (show GC _ _ _ _ _ (.cond _ _ _) _; first | refine gc_yes (h1 := ?_) | refine gc_no (h1 := ?_))))
    exact gk_rets (rvs_c rfl (by exact Sel.auto) rfl rfl rvs_nil) fun H' hH => ⟨rfl, hH.leE⟩

theorem sumY_eq {f g : Nat → Int} : ∀ {d : Nat}, (∀ j, j < d → f j = g j) → sumY f d = sumY g d
  | 0, _ => rfl
  | d + 1, h => by
    show sumY f d + f d = sumY g d + g d
    rw [sumY_eq fun j hj => h j (by omega), h d (by omega)]

theorem pie_win {xs : List Int} {i k : Nat} (h2 : k ≤ xs.length) : pieR (winL xs i k) 0 (winL xs i k).length = pieR xs i k := by
  have e0 := win_len2 (xs := xs) (i := i) h2
  have e1 : wsS (winL xs i k) 0 (k - i) = wsS xs i (k - i) := sumY_eq fun j hj => by rw [Nat.zero_add, win_nth h2 hj]
  have e2 : wsQ (winL xs i k) 0 (k - i) = wsQ xs i (k - i) := sumY_eq fun j hj => by rw [Nat.zero_add, win_nth h2 hj]
  rw [e0]
  unfold pieR
  rw [Nat.sub_zero, e1, e2]

theorem Steps.win {xs : List Int} (h : Steps xs) (i k : Nat) (j : Nat) : -30 ≤ nth (winL xs i k) j ∧ nth (winL xs i k) j ≤ 30 :=
  (Bd.nth (fun x hx => h.1 x (by unfold winL at hx; exact List.mem_of_mem_drop (List.mem_of_mem_take hx)) : Bd 30 (winL xs i k)) (by omega) j)

theorem implPieceMiss_ok {H : Heap} {a : AV} {xs : List Int} {i k : Int} (ha : Ints H a xs) (hl : xs.length ≤ 1000000000) :
    ACalls Try.prog fn_impl_PieceMiss [a, .int .i64 i, .int .i64 k] H fun r H' => r = .tuple [opV (PmOk xs i k) (pieR xs i.toNat (k.toNat + 1)), .bool (decide (PmOk xs i k))] ∧ H' = H := by
  refine ACalls.val ?_ rfl
  refine code_impl_PieceMiss.go [.roI a xs.length xs] ⟨⟨rfl, ha⟩, trivial⟩ (by simp) ?_
  unfold mc_impl_PieceMiss
  have no : ¬ PmOk xs i k → AV.tuple [fr0, .bool false] = AV.tuple [opV (PmOk xs i k) (pieR xs i.toNat (k.toNat + 1)), .bool (decide (PmOk xs i k))] := fun h => by rw [opV_no h, decide_eq_false h]
  (repeat (first | refine gst (hk := ?_) | (show GO _ _ _ _ _ (⟨some _, none, _⟩ :: _) _; first | refine go_op (hk := ?_) | (refine go_nw (hk := ?_); intro u; try simp only [llc, lln, lna, lza]) | (refine go_np (hk := ?_); intro id)) | (show GO _ _ _ _ _ (⟨none, none, _⟩ :: _) _; refine go_st (hk := ?_)) | (show GO _ _ _ _ _ (⟨_, some _, _⟩ :: _) _; first | refine go_in (hk := ?_) | refine go_out (hk := ?_) | refine go_void (hk := ?_)) | (show GK _ _ _ _ (blockK _ _ _); refine gk_past rfl ?_) | (show GC _ _ _ _ _ (.cond _ _ _) _; first | refine gc_yes (h1 := ?_) | refine gc_no (h1 := ?_))))
  refine go_callp rfl code_impl_validHeights.callable (fun H hH => validHeights_ok (hH.ints (by exact Has.auto)) hl) ?_
  (repeat (first | refine gst (hk := ?_) | (show GO _ _ _ _ _ (⟨some _, none, _⟩ :: _) _; first | refine go_op (hk := ?_) | (refine go_nw (hk := ?_); intro u; try simp only [llc, lln, lna, lza]) | (refine go_np (hk := ?_); intro id)) | (show GO _ _ _ _ _ (⟨none, none, _⟩ :: _) _; refine go_st (hk := ?_)) | (show GO _ _ _ _ _ (⟨_, some _, _⟩ :: _) _; first | refine go_in (hk := ?_) | refine go_out (hk := ?_) | refine go_void (hk := ?_)) | (show GK _ _ _ _ (blockK _ _ _); refine gk_past rfl ?_) | (show GC _ _ _ _ _ (.cond _ _ _) _; first | refine gc_yes (h1 := ?_) | refine gc_no (h1 := ?_))))
  refine go_split 11 rfl (fun h1 => ?_) (fun h1 => ?_)
  · (repeat (first | refine gst (hk := ?_) | (show GO _ _ _ _ _ (⟨some _, none, _⟩ :: _) _; first | refine go_op (hk := ?_) | (refine go_nw (hk := ?_); intro u; try simp only [llc, lln, lna, lza]) | (refine go_np (hk := ?_); intro id)) | (show GO _ _ _ _ _ (⟨none, none, _⟩ :: _) _; refine go_st (hk := ?_)) | (show GO _ _ _ _ _ (⟨_, some _, _⟩ :: _) _; first | refine go_in (hk := ?_) | refine go_out (hk := ?_) | refine go_void (hk := ?_)) | (show GK _ _ _ _ (blockK _ _ _); refine gk_past rfl ?_) | (show GC _ _ _ _ _ (.cond _ _ _) _; first | refine gc_yes (h1 := ?_) | refine gc_no (h1 := ?_))))
    exact gk_rets (rvs_c rfl (by exact Sel.auto) rfl rfl (rvs_t rfl rvs_nil)) fun H' hH => ⟨no fun h => h1 h.1, hH.leE⟩
  have hS := Decidable.not_not.1 h1
  (repeat (first | refine gst (hk := ?_) | (show GO _ _ _ _ _ (⟨some _, none, _⟩ :: _) _; first | refine go_op (hk := ?_) | (refine go_nw (hk := ?_); intro u; try simp only [llc, lln, lna, lza]) | (refine go_np (hk := ?_); intro id)) | (show GO _ _ _ _ _ (⟨none, none, _⟩ :: _) _; refine go_st (hk := ?_)) | (show GO _ _ _ _ _ (⟨_, some _, _⟩ :: _) _; first | refine go_in (hk := ?_) | refine go_out (hk := ?_) | refine go_void (hk := ?_)) | (show GK _ _ _ _ (blockK _ _ _); refine gk_past rfl ?_) | (show GC _ _ _ _ _ (.cond _ _ _) _; first | refine gc_yes (h1 := ?_) | refine gc_no (h1 := ?_))))
  refine go_split 15 rfl (fun h2 => ?_) (fun h2 => ?_)
  · (repeat (first | refine gst (hk := ?_) | (show GO _ _ _ _ _ (⟨some _, none, _⟩ :: _) _; first | refine go_op (hk := ?_) | (refine go_nw (hk := ?_); intro u; try simp only [llc, lln, lna, lza]) | (refine go_np (hk := ?_); intro id)) | (show GO _ _ _ _ _ (⟨none, none, _⟩ :: _) _; refine go_st (hk := ?_)) | (show GO _ _ _ _ _ (⟨_, some _, _⟩ :: _) _; first | refine go_in (hk := ?_) | refine go_out (hk := ?_) | refine go_void (hk := ?_)) | (show GK _ _ _ _ (blockK _ _ _); refine gk_past rfl ?_) | (show GC _ _ _ _ _ (.cond _ _ _) _; first | refine gc_yes (h1 := ?_) | refine gc_no (h1 := ?_))))
    exact gk_rets (rvs_c rfl (by exact Sel.auto) rfl rfl (rvs_t rfl rvs_nil)) fun H' hH => ⟨no fun h => by have := h.2; omega, hH.leE⟩
  (repeat (first | refine gst (hk := ?_) | (show GO _ _ _ _ _ (⟨some _, none, _⟩ :: _) _; first | refine go_op (hk := ?_) | (refine go_nw (hk := ?_); intro u; try simp only [llc, lln, lna, lza]) | (refine go_np (hk := ?_); intro id)) | (show GO _ _ _ _ _ (⟨none, none, _⟩ :: _) _; refine go_st (hk := ?_)) | (show GO _ _ _ _ _ (⟨_, some _, _⟩ :: _) _; first | refine go_in (hk := ?_) | refine go_out (hk := ?_) | refine go_void (hk := ?_)) | (show GK _ _ _ _ (blockK _ _ _); refine gk_past rfl ?_) | (show GC _ _ _ _ _ (.cond _ _ _) _; first | refine gc_yes (h1 := ?_) | refine gc_no (h1 := ?_))))
  refine go_split 20 rfl (fun h3 => ?_) (fun h3 => ?_)
  · (repeat (first | refine gst (hk := ?_) | (show GO _ _ _ _ _ (⟨some _, none, _⟩ :: _) _; first | refine go_op (hk := ?_) | (refine go_nw (hk := ?_); intro u; try simp only [llc, lln, lna, lza]) | (refine go_np (hk := ?_); intro id)) | (show GO _ _ _ _ _ (⟨none, none, _⟩ :: _) _; refine go_st (hk := ?_)) | (show GO _ _ _ _ _ (⟨_, some _, _⟩ :: _) _; first | refine go_in (hk := ?_) | refine go_out (hk := ?_) | refine go_void (hk := ?_)) | (show GK _ _ _ _ (blockK _ _ _); refine gk_past rfl ?_) | (show GC _ _ _ _ _ (.cond _ _ _) _; first | refine gc_yes (h1 := ?_) | refine gc_no (h1 := ?_))))
    exact gk_rets (rvs_c rfl (by exact Sel.auto) rfl rfl (rvs_t rfl rvs_nil)) fun H' hH => ⟨no fun h => by have := h.2; omega, hH.leE⟩
  (repeat (first | refine gst (hk := ?_) | (show GO _ _ _ _ _ (⟨some _, none, _⟩ :: _) _; first | refine go_op (hk := ?_) | (refine go_nw (hk := ?_); intro u; try simp only [llc, lln, lna, lza]) | (refine go_np (hk := ?_); intro id)) | (show GO _ _ _ _ _ (⟨none, none, _⟩ :: _) _; refine go_st (hk := ?_)) | (show GO _ _ _ _ _ (⟨_, some _, _⟩ :: _) _; first | refine go_in (hk := ?_) | refine go_out (hk := ?_) | refine go_void (hk := ?_)) | (show GK _ _ _ _ (blockK _ _ _); refine gk_past rfl ?_) | (show GC _ _ _ _ _ (.cond _ _ _) _; first | refine gc_yes (h1 := ?_) | refine gc_no (h1 := ?_))))
  refine gc_cond rfl (fun h4 => ?_) (fun h4 => ?_)
  · (repeat (first | refine gst (hk := ?_) | (show GO _ _ _ _ _ (⟨some _, none, _⟩ :: _) _; first | refine go_op (hk := ?_) | (refine go_nw (hk := ?_); intro u; try simp only [llc, lln, lna, lza]) | (refine go_np (hk := ?_); intro id)) | (show GO _ _ _ _ _ (⟨none, none, _⟩ :: _) _; refine go_st (hk := ?_)) | (show GO _ _ _ _ _ (⟨_, some _, _⟩ :: _) _; first | refine go_in (hk := ?_) | refine go_out (hk := ?_) | refine go_void (hk := ?_)) | (show GK _ _ _ _ (blockK _ _ _); refine gk_past rfl ?_) | (show GC _ _ _ _ _ (.cond _ _ _) _; first | refine gc_yes (h1 := ?_) | refine gc_no (h1 := ?_))))
    exact gk_rets (rvs_c rfl (by exact Sel.auto) rfl rfl (rvs_t rfl rvs_nil)) fun H' hH => ⟨no fun h => by have := h.2; omega, hH.leE⟩
  have hok : PmOk xs i k := ⟨hS, by omega, by omega⟩
  have hn := hS.2.2
  rw [opV_yes hok, decide_eq_true hok]
  have ei : i = ((i.toNat : Nat) : Int) := by omega
  have ek : k = ((k.toNat : Nat) : Int) := by omega
  rw [ei, ek]
  simp only [Int.toNat_natCast]
  generalize i.toNat = i' at *
  generalize k.toNat = k' at *
  have hwl := win_len2 (xs := xs) (i := i') (k := k' + 1) (by omega)
  (repeat (first | refine gst (hk := ?_) | (show GO _ _ _ _ _ (⟨some _, none, _⟩ :: _) _; first | refine go_op (hk := ?_) | (refine go_nw (hk := ?_); intro u; try simp only [llc, lln, lna, lza]) | (refine go_np (hk := ?_); intro id)) | (show GO _ _ _ _ _ (⟨none, none, _⟩ :: _) _; refine go_st (hk := ?_)) | (show GO _ _ _ _ _ (⟨_, some _, _⟩ :: _) _; first | refine go_in (hk := ?_) | refine go_out (hk := ?_) | refine go_void (hk := ?_)) | (show GK _ _ _ _ (blockK _ _ _); refine gk_past rfl ?_) | (show GC _ _ _ _ _ (.cond _ _ _) _; first | refine gc_yes (h1 := ?_) | refine gc_no (h1 := ?_))))
  refine go_new rfl (stp_slI (l := i') (h := k' + 1) rfl (by exact Sel.auto) (.inr ⟨_, rfl, rfl⟩) (.inr ⟨_, rfl, rfl⟩) (by omega)) ?_
  intro w
  rw [show (xs.drop i').take (k' + 1 - i') = winL xs i' (k' + 1) from rfl, ← hwl]
  refine go_callp rfl code_impl_missedSquares.callable (fun H hH => missedSquares_ok (hH.ints (by exact Has.auto)) (hS.win i' (k' + 1)) (by omega) (by omega)) ?_
  rw [pie_win (by omega)]
  (repeat (first | refine gst (hk := ?_) | (show GO _ _ _ _ _ (⟨some _, none, _⟩ :: _) _; first | refine go_op (hk := ?_) | (refine go_nw (hk := ?_); intro u; try simp only [llc, lln, lna, lza]) | (refine go_np (hk := ?_); intro id)) | (show GO _ _ _ _ _ (⟨none, none, _⟩ :: _) _; refine go_st (hk := ?_)) | (show GO _ _ _ _ _ (⟨_, some _, _⟩ :: _) _; first | refine go_in (hk := ?_) | refine go_out (hk := ?_) | refine go_void (hk := ?_)) | (show GK _ _ _ _ (blockK _ _ _); refine gk_past rfl ?_) | (show GC _ _ _ _ _ (.cond _ _ _) _; first | refine gc_yes (h1 := ?_) | refine gc_no (h1 := ?_))))
  exact gk_rets (rvs_c rfl (by exact Sel.auto) rfl rfl (rvs_t rfl rvs_nil)) fun H' hH => ⟨rfl, hH.leE⟩

/-- what was there is there, but for some -/
def ExO (ob0 ob : Nat → Option OB) (I : List Nat) : Prop := ∀ j o, j ∉ I → ob0 j = some o → ob j = some o

theorem ExO.refl (ob : Nat → Option OB) (I : List Nat) : ExO ob ob I := fun _ _ _ h => h

structure CE where
  p : Nat
  v : Rat
  b : Nat

def CutsOk (L : List CE) (clk : Nat) : Prop := (L.map CE.b).Nodup ∧ (∀ e ∈ L, e.b < clk) ∧ (L.map CE.p).Nodup

theorem CutsOk.sub {L M : List CE} {clk : Nat} (h : CutsOk L clk) (hs : M.Sublist L) : CutsOk M clk := ⟨(hs.map _).nodup h.1, fun e he => h.2.1 e (hs.subset he), (hs.map _).nodup h.2.2⟩

/-- the stamps that have come -/
def GoneC (L : List CE) (seen : List Nat) : Prop := seen.Nodup ∧ ∀ b ∈ seen, b ∈ L.map CE.b

theorem GoneC.nil (L : List CE) : GoneC L [] := ⟨List.nodup_nil, by simp⟩

theorem GoneC.le {L : List CE} {seen : List Nat} (h : GoneC L seen) : seen.length ≤ L.length := by
  have := h.1.length_le_of_subset (fun b hb => h.2 b hb : seen ⊆ L.map CE.b)
  rwa [List.length_map] at this

theorem GoneC.snoc {L : List CE} {seen : List Nat} (h : GoneC L seen) {e : CE} (he : e ∈ L) (hn : e.b ∉ seen) : GoneC L (seen ++ [e.b]) := by
  refine ⟨?_, fun b hb => ?_⟩
  · rw [List.nodup_append]
    exact ⟨h.1, by simp, fun a ha b hb => by simp only [List.mem_singleton] at hb; subst hb; exact fun h => hn (h ▸ ha)⟩
  · rcases List.mem_append.1 hb with hb | hb
    · exact h.2 b hb
    · simp only [List.mem_singleton] at hb; subst hb; exact List.mem_map.2 ⟨e, he, rfl⟩

theorem GoneC.lt {L : List CE} {seen : List Nat} (h : GoneC L seen) {e : CE} (he : e ∈ L) (hn : e.b ∉ seen) : L.length - (seen ++ [e.b]).length < L.length - seen.length := by
  have := (h.snoc he hn).le
  rw [List.length_append, List.length_singleton] at this ⊢
  omega

def SmP (xs : List Int) (i d : Nat) : Prop := ∀ t, i ≤ t → t < i + d → nth xs t = nth xs i

noncomputable instance (xs : List Int) (i d : Nat) : Decidable (SmP xs i d) := Classical.propDecidable _

theorem SmP.succ {xs : List Int} {i d : Nat} : SmP xs i (d + 1) ↔ SmP xs i d ∧ nth xs (i + d) = nth xs i := by
  constructor
  · exact fun h => ⟨fun t h1 h2 => h t h1 (by omega), h (i + d) (by omega) (by omega)⟩
  · rintro ⟨h1, h2⟩ t h3 h4
    rcases Nat.lt_or_ge t (i + d) with h5 | h5
    · exact h1 t h3 h5
    · rw [show t = i + d by omega]; exact h2

end Go.Rx.Try
