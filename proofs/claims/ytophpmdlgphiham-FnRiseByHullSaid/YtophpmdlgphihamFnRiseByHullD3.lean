import Derived.Test.YtophpmdlgphihamFnRiseByHullD2
namespace Go.Rx.Try
open Go.Proofs
set_option maxRecDepth 100000
set_option maxHeartbeats 8000000
set_option linter.unusedSimpArgs false
set_option linter.unusedVariables false

theorem gd4_new {P : Program} {Qt : FuncId → List AV → Option AV} {base k : Nat} {A : Heap} {X : List Nat} {E : List (Nat × AV)} {S : Sig} {acc : List (List Nat × List Nat)} {prs : List (Nat × Nat)} {C : List (List Nat × List Nat) → Prop} {K : St → Prop} {r : List MI} {d : Nat} {z : List AV} (hk : GD4 P Qt base (k + 1) A X ((d, .ptr (base + k) 0) :: E) (⟨.cell, .ptr (base + k) 0, z.length, 1, z⟩ :: S) (acc ++ [([], [base + k])]) prs r C K) : GD4 P Qt base k A X E S acc prs (⟨some d, none, .new z⟩ :: r) C K := by
  refine ⟨fun s m hE hS hm => ?_⟩
  obtain ⟨v', S'', H', m', hN, h2, h3, h4, h5, h6⟩ := (stp_new (A := A) (X := X) (E := E) (S := S) (z := z)).stp s.τ s.H m (base + k) hE hS hm
  have hd0 : dstep P Qt (base + k) ⟨some d, none, (.new z)⟩ s = mstep (base + k) s.τ s.H (.new z) := dstep_plain2 rfl
  have hv : v' = .ptr (base + k) 0 := by
    simp only [mstep, Option.some.injEq, Prod.mk.injEq] at h2
    exact h2.1.symm
  obtain ⟨id, hid, rfl⟩ := hN
  rw [hv] at hid h2
  simp only [AV.ptr.injEq, and_true] at hid
  subst hid
  simp only [dopsC, hd0, h2]
  exact hk.g _ m' (look_cons hE d _) h3 (by omega)

theorem gd4_st {P : Program} {Qt : FuncId → List AV → Option AV} {base k : Nat} {A : Heap} {X : List Nat} {E : List (Nat × AV)} {S S' : Sig} {acc : List (List Nat × List Nat)} {prs : List (Nat × Nat)} {C : List (List Nat × List Nat) → Prop} {K : St → Prop} {r : List MI} {n : Nat} {v u : AV} {p x : MX} (hp : evE E p = some u) (hs : Stp A X E S (.st p x n) (Is v S')) (hk : GD4 P Qt base (k + 1) A X E S' (acc ++ [(vid u, vid u)]) prs r C K) : GD4 P Qt base k A X E S acc prs (⟨none, none, .st p x n⟩ :: r) C K := by
  refine ⟨fun s m hE hS hm => ?_⟩
  obtain ⟨v', S'', H', m', ⟨rfl, rfl⟩, h2, h3, h4, h5, h6⟩ := hs.stp s.τ s.H m (base + k) hE hS hm
  have hd0 : dstep P Qt (base + k) ⟨none, none, (.st p x n)⟩ s = mstep (base + k) s.τ s.H (.st p x n) := dstep_plain2 rfl
  have hf : foot s.τ (.st p x n) = vid u := by simp only [foot, ev_of hE hp]
  have ht : touch (base + k) s.τ (.st p x n) = vid u := by simp only [touch, ev_of hE hp]
  simp only [dopsC, hd0, h2, hf, ht]
  exact hk.g _ m' hE h3 (by omega)
/- a part of what a slice holds -/

def foC : Option Rat → List AV
  | none => [.int .i64 0, .int .i64 0]
  | some q => frC q

theorem cels_fo : Cels foC 2 := ⟨fun a => by cases a <;> rfl, fun a => by cases a <;> rfl⟩

theorem fo_some (n : Nat) (f : Nat → Rat) : cellsK foC (tabS n fun j => some (f j)) = frs (tabS n f) := by
  unfold tabS
  generalize List.range n = l
  induction l with
  | nil => rfl
  | cons a l ih =>
    rw [List.map_cons, List.map_cons, frs, cellsK, ih]; rfl

theorem stp_lde {A : Heap} {X : List Nat} {E : List (Nat × AV)} {S : Sig} {p : MX} {v w : AV} {es n i j : Nat} {cs : List AV} (hp : evE E p = some (elF v i j)) (hh : Has S v es n cs) (hi : i < n) (hj : j < es) (hw : cs[i * es + j]? = some w) : Stp A X E S (.ld p 1 false) (Is w S) :=
  stp_pure fun τ H m nid hE hS => by
    have hv := hS.valsA hh
    have h1 := hv.elem hi
    have hlen : i * es + es ≤ cs.length := by
      have := Nat.mul_le_mul_right es (show i + 1 ≤ n by omega)
      rw [Nat.add_mul] at this
      rw [hv.cells]; omega
    cases v <;> simp only [AV.elem, Heap.read] at h1 <;> try (cases h1; done)
    rename_i id off n' cap es'
    have e2 : es' = es := by
      rcases hv.esn with h | h
      · cases h
      · simpa [AV.es] using h
    subst e2
    split at h1
    · rename_i b hb
      split at h1
      · rename_i h2
        simp only [Option.some.injEq] at h1
        have hr : b.cells[off + i * es' + j]? = some w := by
          have h3 := congrArg (fun l => l[j]?) h1
          simp only [List.getElem?_take_of_lt hj, List.getElem?_drop] at h3
          rw [← hw, h3]
        have hlt := (List.getElem?_eq_some_iff.1 hr).1
        simp only [mstep, ev_of hE hp, elF, Heap.read, hb]
        rw [if_pos (by omega)]
        have e3 : (b.cells.drop (off + i * es' + j)).take 1 = [w] := by
          rw [List.drop_eq_getElem_cons hlt, List.take_succ_cons, List.take_zero, (List.getElem?_eq_some_iff.1 hr).2]
        simp only [e3, packC, Option.map_some, Bool.false_eq_true, if_false]
      · cases h1
    · cases h1

theorem nth_rev {xs : List Int} {i : Nat} (h : i < xs.length) : nth xs.reverse i = nth xs (xs.length - 1 - i) := by
  rw [nth_of (by simp; omega), nth_of (by omega), List.getElem_reverse]

theorem Pts.neg {xs ys : List Int} (h : Pts xs ys) : Pts xs (ys.map (- ·)) := by
  obtain ⟨h1, h2, h3⟩ := h
  refine ⟨fun i hi => ?_, by simp [h2], h3⟩
  have h4 := h1 i hi
  rw [getD_map _ (by omega)]
  exact ⟨by simp; omega, h4.2.1, by omega⟩

theorem Cloud.neg {xs ys : List Int} (h : Cloud xs ys) : Cloud xs (ys.map (- ·)) := ⟨h.1.neg, h.2⟩
/- slopes of what is turned, of what is negated -/

theorem nth_take {xs : List Int} {m i : Nat} (h : i < m) : nth (xs.take m) i = nth xs i := by
  unfold nth
  simp [List.getD, List.getElem?_take_of_lt h]

theorem Pts.take {xs ys : List Int} (h : Pts xs ys) (m : Nat) : Pts (xs.take m) (ys.take m) := by
  obtain ⟨h1, h2, h3⟩ := h
  refine ⟨fun i hi => ?_, by simp [h2], by simp; omega⟩
  rw [List.length_take] at hi
  have h4 := h1 i (by omega)
  rw [nth_take (by omega), nth_take (by omega), List.length_take]
  exact ⟨by omega, h4.2⟩

theorem CvOk.take {xs ys : List Int} (h : CvOk xs ys) {m : Nat} (h1 : 1 ≤ m) (hm : m ≤ xs.length) : CvOk (xs.take m) (ys.take m) := by
  have h5 := h.1.2
  have hl : (xs.take m).length = m := by rw [List.length_take]; omega
  refine ⟨⟨h.1.1.take m, by rw [hl]; omega⟩, fun i hi k hk => ?_⟩
  rw [hl] at hi
  rw [nth_take (by omega), nth_take (by omega)]
  exact h.2 i (by omega) k hk

theorem stp_ageqS {A : Heap} {X : List Nat} {E : List (Nat × AV)} {S : Sig} {k : IntKind} {x y : MX} {a b : Int} (hx : evE E x = some (.agg [.int k a, .int k b])) (hy : evE E y = some (.agg [.int k a, .int k b])) : Stp A X E S (.ageq false 2 x y) (Is (.bool true) S) := by
  have h := stp_ageq2 (A := A) (X := X) (S := S) hx hy
  simpa using h

theorem stp_agneS {A : Heap} {X : List Nat} {E : List (Nat × AV)} {S : Sig} {k : IntKind} {x y : MX} {a b : Int} (hx : evE E x = some (.agg [.int k a, .int k b])) (hy : evE E y = some (.agg [.int k a, .int k b])) : Stp A X E S (.ageq true 2 x y) (Is (.bool false) S) := by
  have h := stp_ageq (A := A) (X := X) (S := S) (neg := true) (n := 2) (b := (a == a && (b == b && true))) hx hy rfl (by simp [flatEq])
  simpa using h

theorem leTot (a b : Rat) : a ≤ b ∨ b ≤ a := Rat.le_total

theorem le_divR {a c d : Rat} (hd : 0 < d) : c ≤ a / d ↔ c * d ≤ a := by
  have hn : d ≠ 0 := by grind
  have h1 : a / d * d = a := Rat.div_mul_cancel hn
  constructor
  · intro h
    have := Rat.mul_le_mul_of_nonneg_right h (Rat.le_of_lt hd)
    rw [h1] at this; exact this
  · intro h
    rcases leTot c (a / d) with h2 | h2
    · exact h2
    · have := Rat.mul_le_mul_of_nonneg_right h2 (Rat.le_of_lt hd)
      rw [h1] at this
      have h3 : c * d = a := Rat.le_antisymm h this
      have : c = a / d := by rw [← h3, Rat.div_def, Rat.mul_assoc, Rat.mul_inv_cancel _ hn, Rat.mul_one]
      rw [this]; exact Rat.le_refl

theorem div_leR {a c d : Rat} (hd : 0 < d) : a / d ≤ c ↔ a ≤ c * d := by
  have hn : d ≠ 0 := by grind
  have h1 : a / d * d = a := Rat.div_mul_cancel hn
  constructor
  · intro h
    have := Rat.mul_le_mul_of_nonneg_right h (Rat.le_of_lt hd)
    rw [h1] at this; exact this
  · intro h
    rcases leTot (a / d) c with h2 | h2
    · exact h2
    · have := Rat.mul_le_mul_of_nonneg_right h2 (Rat.le_of_lt hd)
      rw [h1] at this
      have h3 : c * d = a := Rat.le_antisymm this h
      have : c = a / d := by rw [← h3, Rat.div_def, Rat.mul_assoc, Rat.mul_inv_cancel _ hn, Rat.mul_one]
      rw [this]; exact Rat.le_refl

def mnA (S W : Nat → Rat) (i e : Nat) : Rat := (S e - S i) / (W e - W i)

def AscW (W : Nat → Rat) (n : Nat) : Prop := ∀ i, i < n → W i < W (i + 1)

theorem AscW.lt {W : Nat → Rat} {n : Nat} (h : AscW W n) {i : Nat} : ∀ {j}, i < j → j ≤ n → W i < W j
  | 0, h1, _ => absurd h1 (Nat.not_lt_zero _)
  | j + 1, h1, h2 => by
    have := h j h2
    rcases Nat.lt_or_ge i j with h3 | h3
    · have := h.lt (j := j) h3 (by omega); grind
    · rw [show i = j by omega]; exact this

theorem AscW.le {W : Nat → Rat} {n : Nat} (h : AscW W n) {i j : Nat} (h1 : i ≤ j) (h2 : j ≤ n) : W i ≤ W j := by
  rcases Nat.lt_or_ge i j with h3 | h3
  · exact Rat.le_of_lt (h.lt h3 h2)
  · rw [show i = j by omega]; exact Rat.le_refl

theorem AscW.sub {W : Nat → Rat} {n m : Nat} (h : AscW W n) (hm : m ≤ n) : AscW W m := fun i hi => h i (by omega)

theorem mnA_mul {S W : Nat → Rat} {i e : Nat} (h : W i < W e) : mnA S W i e * (W e - W i) = S e - S i := Rat.div_mul_cancel (by grind)

theorem le_mnA {S W : Nat → Rat} {i e : Nat} {c : Rat} (h : W i < W e) : c ≤ mnA S W i e ↔ c * (W e - W i) ≤ S e - S i := le_divR (by grind)

theorem mnA_le {S W : Nat → Rat} {i e : Nat} {c : Rat} (h : W i < W e) : mnA S W i e ≤ c ↔ S e - S i ≤ c * (W e - W i) := div_leR (by grind)

theorem mulR_le {a b d : Rat} (hd : 0 ≤ d) (h : a ≤ b) : a * d ≤ b * d := Rat.mul_le_mul_of_nonneg_right h hd

theorem mulR_ge {a b d : Rat} (hd : d ≤ 0) (h : a ≤ b) : b * d ≤ a * d := by
  have := mulR_le (a := a) (b := b) (d := -d) (by grind) h
  grind

/-- the line with slope c through s and e lies below all sums up to n; j is between s and e -/
def Sup (S W : Nat → Rat) (n j : Nat) (c : Rat) : Prop := ∃ s e, s ≤ j ∧ j < e ∧ e ≤ n ∧ S e - S s = c * (W e - W s) ∧ ∀ t, t ≤ n → c * (W t - W s) ≤ S t - S s

theorem Sup.uniq {S W : Nat → Rat} {n j : Nat} {c d : Rat} (hW : AscW W n) (h : Sup S W n j c) (h' : Sup S W n j d) : c = d := by
  have one : ∀ {c d : Rat}, Sup S W n j c → Sup S W n j d → ¬ c < d := by
    rintro c d ⟨s, e, h1, h2, h3, h4, h5⟩ ⟨s', e', g1, g2, g3, g4, g5⟩ hlt
    -- on e: S e is on the line of slope c through s; from s' on the line of slope d
    have a1 := h5 s' (by omega)
    have a2 := g5 e h3
    have a3 := hW.lt (i := s') (j := e) (by omega) h3
    have a4 := mulR_le (d := W e - W s') (by grind) (Rat.le_of_lt hlt)
    have a5 : c * (W e - W s') ≠ d * (W e - W s') := fun h => by
      have : (d - c) * (W e - W s') = 0 := by grind
      have h6 : 0 < (d - c) * (W e - W s') := Rat.mul_pos (by grind) (by grind)
      grind
    grind
  exact Rat.le_antisymm (Rat.not_lt.1 (one h' h)) (Rat.not_lt.1 (one h h'))

/- stacks of blocks: the last one's start ahead, e the end -/

def Bks (S W : Nat → Rat) : List Nat → Nat → Prop
  | [], e => e = 0
  | a :: r, e => a < e ∧ (∀ t, a ≤ t → t ≤ e → mnA S W a e * (W t - W a) ≤ S t - S a) ∧ Bks S W r a

def Inc (S W : Nat → Rat) : List Nat → Nat → Prop
  | [], _ => True
  | [_], _ => True
  | a :: b :: r, e => mnA S W b a < mnA S W a e ∧ Inc S W (b :: r) a

theorem Bks.len {S W : Nat → Rat} : ∀ {r : List Nat} {e}, Bks S W r e → r.length ≤ e
  | [], _, h => by simp
  | a :: r, e, h => by
    have := Bks.len h.2.2
    have := h.1
    simp only [List.length_cons]; omega

/-- two blocks joined -/
theorem Bks.join {S W : Nat → Rat} {n : Nat} (hW : AscW W n) {a b e : Nat} {r : List Nat} (he : e ≤ n) (h : Bks S W (a :: b :: r) e) (hm : mnA S W a e ≤ mnA S W b a) : Bks S W (b :: r) e := by
  obtain ⟨h1, h2, h3, h4, h5⟩ := h
  refine ⟨by omega, ?_, h5⟩
  have wba := hW.lt h3 (by omega)
  have wae := hW.lt h1 he
  have wbe : W b < W e := by grind
  have p := mnA_mul (S := S) wba
  have q := mnA_mul (S := S) wae
  have m := mnA_mul (S := S) wbe
  have m1 : mnA S W b e ≤ mnA S W b a := (mnA_le wbe).2 (by
    have := mulR_le (d := W e - W a) (by grind) hm
    grind)
  have m2 : mnA S W a e ≤ mnA S W b e := (le_mnA wbe).2 (by
    have := mulR_le (d := W a - W b) (by grind) hm
    grind)
  intro t ht ht2
  rcases Nat.le_total t a with h6 | h6
  · have := h4 t ht h6
    have wt := hW.le ht (by omega)
    have := mulR_le (d := W t - W b) (by grind) m1
    grind
  · have := h2 t h6 ht2
    have wt := hW.le ht2 he
    have := mulR_le (d := W e - W t) (by grind) m2
    grind

/-- the last block's line lies below all that is behind -/
theorem Bks.back {S W : Nat → Rat} {n : Nat} (hW : AscW W n) : ∀ {r : List Nat} {a e : Nat}, e ≤ n → Bks S W (a :: r) e → Inc S W (a :: r) e → ∀ t, t ≤ e → mnA S W a e * (W t - W a) ≤ S t - S a
  | [], a, e, he, h, _, t, ht => by
    obtain ⟨h1, h2, h3⟩ := h
    obtain rfl : a = 0 := h3
    exact h2 t (by omega) ht
  | b :: r, a, e, he, h, hi, t, ht => by
    have ⟨h1, h2, h3⟩ := h
    rcases Nat.le_total a t with h4 | h4
    · exact h2 t h4 ht
    · have := Bks.back hW (by omega) h3 hi.2 t h4
      have wba := hW.lt h3.1 (by omega)
      have p := mnA_mul (S := S) wba
      have wt := hW.le h4 (by omega)
      have := mulR_ge (d := W t - W a) (by grind) (Rat.le_of_lt hi.1)
      grind

/-- the block's mean at each place -/
def fitB (S W : Nat → Rat) : List Nat → Nat → Nat → Rat
  | [], _, _ => 0
  | a :: r, e, j => if a ≤ j then mnA S W a e else fitB S W r a j

theorem Bks.sup {S W : Nat → Rat} {n : Nat} (hW : AscW W n) : ∀ {r : List Nat} {a e : Nat}, e ≤ n → Bks S W (a :: r) e → Inc S W (a :: r) e → ∀ j, j < e → Sup S W e j (fitB S W (a :: r) e j) ∧ fitB S W (a :: r) e j ≤ mnA S W a e
  | r, a, e, he, h, hi, j, hj => by
    have wae := hW.lt h.1 he
    have q := mnA_mul (S := S) wae
    rcases Nat.lt_or_ge j a with h1 | h1
    · match r, h, hi with
      | [], h, hi => obtain rfl : a = 0 := h.2.2; omega
      | b :: r, h, hi =>
        have hs := Bks.sup hW (by have := h.1; omega) h.2.2 hi.2 j h1
        rw [show fitB S W (a :: b :: r) e j = fitB S W (b :: r) a j by
          show (if a ≤ j then _ else _) = _
          rw [if_neg (by omega)]]
        generalize fitB S W (b :: r) a j = c at hs ⊢
        obtain ⟨⟨s, u, g1, g2, g3, g4, g5⟩, g6⟩ := hs
        have g7 : c ≤ mnA S W a e := Rat.le_trans g6 (Rat.le_of_lt hi.1)
        refine ⟨⟨s, u, g1, g2, by have := h.1; omega, g4, fun t ht => ?_⟩, g7⟩
        rcases Nat.le_total t a with h3 | h3
        · exact g5 t h3
        · have k1 := h.2.1 t h3 ht
          have k2 := g5 a (Nat.le_refl _)
          have wt := hW.le h3 (by omega)
          have k3 := mulR_le (d := W t - W a) (by grind) g7
          grind
    · rw [show fitB S W (a :: r) e j = mnA S W a e by
        show (if a ≤ j then _ else _) = _
        rw [if_pos h1]]
      exact ⟨⟨a, e, h1, hj, Nat.le_refl _, q.symm, Bks.back hW he h hi⟩, Rat.le_refl⟩
/- the stack when blocks are joined -/

def popS (S W : Nat → Rat) (e : Nat) : List Nat → List Nat
  | a :: b :: r => if mnA S W b a < mnA S W a e then a :: b :: r else popS S W e (b :: r)
  | l => l

def poS (S W : Nat → Rat) : Nat → List Nat
  | 0 => []
  | k + 1 => popS S W (k + 1) (k :: poS S W k)

theorem popS_ok {S W : Nat → Rat} {n : Nat} (hW : AscW W n) {e : Nat} (he : e ≤ n) : ∀ {r : List Nat} {a : Nat}, Bks S W (a :: r) e → (∀ b r', r = b :: r' → Inc S W (b :: r') a) → ∃ a' r', popS S W e (a :: r) = a' :: r' ∧ Bks S W (a' :: r') e ∧ Inc S W (a' :: r') e
  | [], a, h, _ => ⟨a, [], rfl, h, trivial⟩
  | b :: r, a, h, hi => by
    rw [show popS S W e (a :: b :: r) = if mnA S W b a < mnA S W a e then a :: b :: r else popS S W e (b :: r) from rfl]
    by_cases hc : mnA S W b a < mnA S W a e
    · rw [if_pos hc]; exact ⟨a, b :: r, rfl, h, hc, hi b r rfl⟩
    · rw [if_neg hc]
      have hj := h.join hW he (Rat.not_lt.1 hc)
      refine popS_ok hW he hj fun b' r' hr => ?_
      subst hr
      exact (hi b _ rfl).2

theorem poS_ok {S W : Nat → Rat} {n : Nat} (hW : AscW W n) : ∀ {k}, k ≤ n → Bks S W (poS S W k) k ∧ Inc S W (poS S W k) k
  | 0, _ => ⟨rfl, trivial⟩
  | k + 1, hk => by
    have ih := poS_ok (S := S) hW (k := k) (by omega)
    have hB : Bks S W (k :: poS S W k) (k + 1) := by
      refine ⟨by omega, fun t h1 h2 => ?_, ih.1⟩
      have w := hW k hk
      have q := mnA_mul (S := S) w
      rcases Nat.lt_or_ge k t with h3 | h3
      · obtain rfl : t = k + 1 := by omega
        grind
      · obtain rfl : t = k := by omega
        grind
    obtain ⟨a', r', e1, e2, e3⟩ := popS_ok hW hk hB fun b r' hr => by rw [← hr]; exact ih.2
    show Bks S W (popS S W (k + 1) (k :: poS S W k)) _ ∧ Inc S W (popS S W (k + 1) (k :: poS S W k)) _
    rw [e1]; exact ⟨e2, e3⟩

theorem poS_pos {S W : Nat → Rat} {n : Nat} (hW : AscW W n) {k : Nat} (hk : k ≤ n) (h0 : 0 < k) : ∃ a r, poS S W k = a :: r := by
  have := (poS_ok (S := S) hW hk).1
  cases h : poS S W k with
  | nil => rw [h] at this; have h3 : k = 0 := this; omega
  | cons a r => exact ⟨a, r, rfl⟩

theorem poS_sup {S W : Nat → Rat} {n : Nat} (hW : AscW W n) {j : Nat} (hj : j < n) : Sup S W n j (fitB S W (poS S W n) n j) := by
  obtain ⟨h1, h2⟩ := poS_ok (S := S) hW (Nat.le_refl n)
  obtain ⟨a, r, e⟩ := poS_pos (S := S) hW (Nat.le_refl n) (by omega)
  rw [e] at h1 h2 ⊢
  exact (Bks.sup hW (Nat.le_refl _) h1 h2 j hj).1

noncomputable def fitN (S W : Nat → Rat) (n j : Nat) : Rat := fitB S W (poS S W n) n j

theorem Sup.fit {S W : Nat → Rat} {n j : Nat} {c : Rat} (hW : AscW W n) (h : Sup S W n j c) : fitN S W n j = c := by
  have hj : j < n := by obtain ⟨s, e, h1, h2, h3, _⟩ := h; omega
  exact (poS_sup hW hj).uniq hW h

/-- by the hull: a point on it -/
def OnH (S W : Nat → Rat) (n i : Nat) : Prop := i = 0 ∨ ∃ c, ∀ t, t ≤ n → c * (W t - W i) ≤ S t - S i

theorem OnH.step {S W : Nat → Rat} {n i at' : Nat} {c : Rat} (hW : AscW W n) (h : OnH S W n i) (hi : i ≤ at') (ha : at' < n) (hc : ∀ k, i ≤ k → k < n → c ≤ mnA S W i (k + 1)) (he : c = mnA S W i (at' + 1)) :
    (∀ j, i ≤ j → j ≤ at' → Sup S W n j c) ∧ OnH S W n (at' + 1) := by
  have w := hW.lt (i := i) (j := at' + 1) (by omega) (by omega)
  have q : c * (W (at' + 1) - W i) = S (at' + 1) - S i := by rw [he]; exact mnA_mul w
  have all : ∀ t, t ≤ n → c * (W t - W i) ≤ S t - S i := by
    intro t ht
    rcases Nat.lt_or_ge i t with h1 | h1
    · have := (le_mnA (hW.lt h1 ht)).1 (by have := hc (t - 1) (by omega) (by omega); rwa [show t - 1 + 1 = t by omega] at this)
      exact this
    · rcases h with rfl | ⟨d, h⟩
      · obtain rfl : t = 0 := by omega
        grind
      · have h2 := h t ht
        have h3 := h (at' + 1) (by omega)
        have hd : d ≤ c := by rw [he]; exact (le_mnA w).2 h3
        have wt := hW.le h1 (by omega)
        have := mulR_ge (d := W t - W i) (by grind) hd
        grind
  refine ⟨fun j g1 g2 => ⟨i, at' + 1, g1, by omega, by omega, q.symm, all⟩, Or.inr ⟨c, fun t ht => ?_⟩⟩
  have := all t ht
  grind
/- sums of what is fitted -/

theorem fitB_ge {S W : Nat → Rat} {a : Nat} {r : List Nat} {e j : Nat} (h : a ≤ j) : fitB S W (a :: r) e j = mnA S W a e := by
  rw [show fitB S W (a :: r) e j = if a ≤ j then mnA S W a e else fitB S W r a j from rfl, if_pos h]

theorem fitB_lt {S W : Nat → Rat} {a : Nat} {r : List Nat} {e j : Nat} (h : j < a) : fitB S W (a :: r) e j = fitB S W r a j := by
  rw [show fitB S W (a :: r) e j = if a ≤ j then mnA S W a e else fitB S W r a j from rfl, if_neg (by omega)]

noncomputable def fitS (S W : Nat → Rat) (r : List Nat) (e t : Nat) : Rat := sumR (fun i => fitB S W r e i * (W (i + 1) - W i)) t

theorem fitS_lt {S W : Nat → Rat} {a : Nat} {r : List Nat} {e t : Nat} (h : t ≤ a) : fitS S W (a :: r) e t = fitS S W r a t :=
  sumR_congr fun i hi => by rw [fitB_lt (by omega)]

theorem fitS_ge {S W : Nat → Rat} {a : Nat} {r : List Nat} {e : Nat} : ∀ {t}, a ≤ t → fitS S W (a :: r) e t = fitS S W r a a + mnA S W a e * (W t - W a) := by
  intro t ht
  obtain ⟨d, rfl⟩ := Nat.exists_eq_add_of_le ht
  clear ht
  induction d with
  | zero => rw [Nat.add_zero, fitS_lt (Nat.le_refl a)]; grind
  | succ d ih =>
    have ht : a ≤ a + d := by omega
    rw [← Nat.add_assoc]
    revert ih ht
    generalize a + d = t
    intro ih ht
    rw [show fitS S W (a :: r) e (t + 1) = fitS S W (a :: r) e t + fitB S W (a :: r) e t * (W (t + 1) - W t) from rfl, ih, fitB_ge ht]; grind

theorem Bks.sums {S W : Nat → Rat} {n : Nat} (hW : AscW W n) : ∀ {r : List Nat} {e : Nat}, e ≤ n → Bks S W r e → (∀ t, t ≤ e → fitS S W r e t ≤ S t - S 0) ∧ fitS S W r e e = S e - S 0
  | [], e, _, h => by
    obtain rfl : e = 0 := h
    have : fitS S W [] 0 0 = 0 := rfl
    refine ⟨fun t ht => ?_, by rw [this]; grind⟩
    obtain rfl : t = 0 := by omega
    rw [this]; grind
  | a :: r, e, he, h => by
    obtain ⟨h1, h2, h3⟩ := h
    obtain ⟨i1, i2⟩ := Bks.sums hW (by omega) h3
    refine ⟨fun t ht => ?_, ?_⟩
    · rcases Nat.le_total t a with h4 | h4
      · rw [fitS_lt h4]; exact i1 t h4
      · rw [fitS_ge h4, i2]
        have := h2 t h4 ht; grind
    · rw [fitS_ge (by omega), i2]
      have := mnA_mul (S := S) (hW.lt h1 he); grind

def Loads (xs ws : List Int) : Prop := (∀ w ∈ ws, 1 ≤ w ∧ w ≤ 5) ∧ Bd 30 xs ∧ xs.length = ws.length ∧ 1 ≤ xs.length ∧ xs.length ≤ 8

noncomputable instance (xs ws : List Int) : Decidable (Loads xs ws) := Classical.propDecidable _

def rS (xs ws : List Int) (t : Nat) : Rat := ((dotT xs ws t : Int) : Rat)

def rW (ws : List Int) (t : Nat) : Rat := ((sumI ws t : Int) : Rat)

theorem Loads.w {xs ws : List Int} (h : Loads xs ws) {i : Nat} (hi : i < xs.length) : 1 ≤ nth ws i ∧ nth ws i ≤ 5 := by
  have h1 : i < ws.length := by have := h.2.2.1; omega
  rw [nth_of h1]; exact h.1 _ (List.getElem_mem h1)

theorem Loads.x {xs ws : List Int} (h : Loads xs ws) (i : Nat) : -30 ≤ nth xs i ∧ nth xs i ≤ 30 := h.2.1.nth (by omega) i

theorem Loads.sums {xs ws : List Int} (h : Loads xs ws) {i : Nat} : ∀ {e}, i ≤ e → e ≤ xs.length →
    (((e - i : Nat) : Int) ≤ sumI ws e - sumI ws i ∧ sumI ws e - sumI ws i ≤ 5 * ((e - i : Nat) : Int)) ∧ (-(30 * (sumI ws e - sumI ws i)) ≤ dotT xs ws e - dotT xs ws i ∧ dotT xs ws e - dotT xs ws i ≤ 30 * (sumI ws e - sumI ws i))
  | 0, h1, _ => by obtain rfl : i = 0 := by omega
                   simp
  | e + 1, h1, h2 => by
    rcases Nat.lt_or_ge e i with h3 | h3
    · obtain rfl : i = e + 1 := by omega
      simp
    · have ih := h.sums (i := i) (e := e) h3 (by omega)
      have hw := h.w (i := e) (by omega)
      have hx := h.x e
      have m1 : nth xs e * nth ws e ≤ 30 * nth ws e := Int.mul_le_mul_of_nonneg_right hx.2 (by omega)
      have m2 : -30 * nth ws e ≤ nth xs e * nth ws e := Int.mul_le_mul_of_nonneg_right hx.1 (by omega)
      rw [show sumI ws (e + 1) = sumI ws e + nth ws e from rfl, show dotT xs ws (e + 1) = dotT xs ws e + nth xs e * nth ws e from rfl]
      generalize nth xs e * nth ws e = p at *
      omega

theorem Loads.pos {xs ws : List Int} (h : Loads xs ws) {i e : Nat} (h1 : i < e) (h2 : e ≤ xs.length) : 1 ≤ sumI ws e - sumI ws i ∧ sumI ws e - sumI ws i ≤ 40 := by
  have := (h.sums (i := i) (e := e) (by omega) h2).1
  have := h.2.2.2.2
  omega

theorem Loads.asc {xs ws : List Int} (h : Loads xs ws) : AscW (rW ws) xs.length := fun i hi => by
  have := h.pos (i := i) (e := i + 1) (by omega) hi
  exact Rat.intCast_lt_intCast.2 (by omega)

theorem rW_succ (ws : List Int) (i : Nat) : rW ws (i + 1) - rW ws i = ((nth ws i : Int) : Rat) := by
  unfold rW
  rw [show sumI ws (i + 1) = sumI ws i + nth ws i from rfl, Rat.intCast_add]; grind

theorem rS_succ (xs ws : List Int) (i : Nat) : rS xs ws (i + 1) - rS xs ws i = ((nth xs i : Int) : Rat) * (rW ws (i + 1) - rW ws i) := by
  rw [rW_succ]
  unfold rS
  rw [show dotT xs ws (i + 1) = dotT xs ws i + nth xs i * nth ws i from rfl, Rat.intCast_add, Rat.intCast_mul]; grind

def mnR (xs ws : List Int) (i e : Nat) : Rat := ((dotT xs ws e - dotT xs ws i : Int) : Rat) / ((sumI ws e - sumI ws i : Int) : Rat)

theorem mnR_mnA (xs ws : List Int) (i e : Nat) : mnA (rS xs ws) (rW ws) i e = mnR xs ws i e := by
  unfold mnA mnR rS rW
  rw [Rat.intCast_sub, Rat.intCast_sub]

theorem Loads.fd {xs ws : List Int} (h : Loads xs ws) {i e : Nat} (h1 : i < e) (h2 : e ≤ xs.length) : FD (mnR xs ws i e) (sumI ws e - sumI ws i) (30 * (sumI ws e - sumI ws i)) :=
  FD.div (by have := (h.pos h1 h2).1; omega) (h.sums (by omega) h2).2

noncomputable def fiR (xs ws : List Int) (j : Nat) : Rat := fitN (rS xs ws) (rW ws) xs.length j

theorem fitB_is {S W : Nat → Rat} : ∀ {r : List Nat} {e j : Nat}, j < e → Bks S W r e → ∃ i u, i ≤ j ∧ j < u ∧ u ≤ e ∧ fitB S W r e j = mnA S W i u
  | [], e, j, h1, h2 => by have : e = 0 := h2; omega
  | a :: r, e, j, h1, h2 => by
    rcases Nat.lt_or_ge j a with h3 | h3
    · rw [fitB_lt h3]
      obtain ⟨i, u, g1, g2, g3, g4⟩ := fitB_is h3 h2.2.2
      exact ⟨i, u, g1, g2, by have := h2.1; omega, g4⟩
    · rw [fitB_ge h3]
      exact ⟨a, e, h3, h1, Nat.le_refl _, rfl⟩

theorem Loads.fit_is {xs ws : List Int} (h : Loads xs ws) {j : Nat} (hj : j < xs.length) : ∃ i u, i ≤ j ∧ j < u ∧ u ≤ xs.length ∧ fiR xs ws j = mnR xs ws i u := by
  obtain ⟨i, u, h1, h2, h3, h4⟩ := fitB_is hj (poS_ok (S := rS xs ws) h.asc (Nat.le_refl _)).1
  exact ⟨i, u, h1, h2, h3, by rw [← mnR_mnA]; exact h4⟩
/- whole multiples -/

def Dv (q : Rat) (D : Int) : Prop := 0 < D ∧ ∃ k : Int, q * (D : Rat) = (k : Rat)

theorem Dv.lift {q : Rat} {D m : Int} (h : Dv q D) (hm : 0 < m) : Dv q (D * m) := by
  obtain ⟨h1, k, h2⟩ := h
  exact ⟨Int.mul_pos h1 hm, k * m, by rw [Rat.intCast_mul, Rat.intCast_mul, ← Rat.mul_assoc, h2]⟩

theorem Dv.add {p q : Rat} {D : Int} (h : Dv p D) (h' : Dv q D) : Dv (p + q) D := by
  obtain ⟨h1, k, h2⟩ := h
  obtain ⟨_, l, h3⟩ := h'
  exact ⟨h1, k + l, by rw [Rat.intCast_add, ← h2, ← h3]; grind⟩

theorem Dv.mul {p q : Rat} {D E : Int} (h : Dv p D) (h' : Dv q E) : Dv (p * q) (D * E) := by
  obtain ⟨h1, k, h2⟩ := h
  obtain ⟨h4, l, h3⟩ := h'
  exact ⟨Int.mul_pos h1 h4, k * l, by rw [Rat.intCast_mul, Rat.intCast_mul, ← h2, ← h3]; grind⟩

theorem Dv.int (n : Int) : Dv (n : Rat) 1 := ⟨by omega, n, by simp⟩

theorem Dv.to {q : Rat} {D E : Int} (h : Dv q D) (e : D = E) : Dv q E := e ▸ h

theorem Dv.fd {q : Rat} {D M : Int} (h : Dv q D) (h1 : -(M : Rat) ≤ q) (h2 : q ≤ (M : Rat)) : FD q D (M * D) := by
  obtain ⟨h3, k, h4⟩ := h
  have hd : ((0 : Int) : Rat) ≤ ((D : Int) : Rat) := Rat.intCast_le_intCast.2 (Int.le_of_lt h3)
  refine ⟨h3, k, h4, ?_, ?_⟩
  · have := mulR_le hd h1
    rw [h4] at this
    refine Rat.intCast_le_intCast.1 ?_
    rw [Rat.intCast_neg, Rat.intCast_mul]; grind
  · have := mulR_le hd h2
    rw [h4] at this
    refine Rat.intCast_le_intCast.1 ?_
    rw [Rat.intCast_mul]; exact this
/- what is missed: squares, with weights -/

theorem intc0 : ((0 : Int) : Rat) = 0 := rfl

theorem Loads.turn {xs ws : List Int} (h : Loads xs ws) : Loads (xs.reverse.map (- ·)) ws.reverse := by
  obtain ⟨h1, h2, h3, h4, h5⟩ := h
  refine ⟨fun w hw => h1 w (List.mem_reverse.1 hw), fun x hx => ?_, by simp [h3], by simpa using h4, by simpa using h5⟩
  obtain ⟨y, hy, rfl⟩ := List.mem_map.1 hx
  have := h2 y (List.mem_reverse.1 hy)
  omega

theorem Loads.back {xs ws : List Int} (h : Loads xs ws) : Loads xs.reverse ws.reverse := by
  obtain ⟨h1, h2, h3, h4, h5⟩ := h
  exact ⟨fun w hw => h1 w (List.mem_reverse.1 hw), fun x hx => h2 x (List.mem_reverse.1 hx), by simp [h3], by simpa using h4, by simpa using h5⟩

theorem nth_negr {xs : List Int} {i : Nat} (h : i < xs.length) : nth (xs.reverse.map (- ·)) i = - nth xs (xs.length - 1 - i) := by
  rw [nth_of (by simpa using h), List.getElem_map, ← nth_rev h, nth_of (by simpa using h)]

theorem turn_W {ws : List Int} : ∀ {t}, t ≤ ws.length → rW ws.reverse t = rW ws ws.length - rW ws (ws.length - t)
  | 0, _ => by
    show ((0 : Int) : Rat) = _
    rw [intc0, Nat.sub_zero]; grind
  | t + 1, ht => by
    have ih := turn_W (ws := ws) (t := t) (by omega)
    have e1 := rW_succ ws.reverse t
    have e2 := rW_succ ws (ws.length - (t + 1))
    rw [show ws.length - (t + 1) + 1 = ws.length - t by omega] at e2
    rw [nth_rev (by omega), show ws.length - 1 - t = ws.length - (t + 1) by omega] at e1
    grind

theorem turn_S {xs ws : List Int} (hl : xs.length = ws.length) : ∀ {t}, t ≤ ws.length → rS (xs.reverse.map (- ·)) ws.reverse t = rS xs ws (ws.length - t) - rS xs ws ws.length
  | 0, _ => by
    show ((0 : Int) : Rat) = _
    rw [intc0, Nat.sub_zero]; grind
  | t + 1, ht => by
    have e0 := rW_succ ws (ws.length - (t + 1))
    have ih := turn_S hl (t := t) (by omega)
    have e1 := rS_succ (xs.reverse.map (- ·)) ws.reverse t
    have e2 := rS_succ xs ws (ws.length - (t + 1))
    rw [show ws.length - (t + 1) + 1 = ws.length - t by omega] at e0 e2
    rw [rW_succ, nth_rev (by omega), nth_negr (by omega), hl, show ws.length - 1 - t = ws.length - (t + 1) by omega, Rat.intCast_neg] at e1
    grind

/-- a row turned round -/
theorem Loads.turn_fit {xs ws : List Int} (h : Loads xs ws) {j : Nat} (hj : j < xs.length) : fiR (xs.reverse.map (- ·)) ws.reverse (xs.length - 1 - j) = - fiR xs ws j := by
  obtain ⟨s, e, h1, h2, h3, h4, h5⟩ := poS_sup (S := rS xs ws) h.asc hj
  have hl := h.2.2.1
  have hn : (xs.reverse.map (- ·)).length = xs.length := by simp
  refine Sup.fit h.turn.asc ⟨xs.length - e, xs.length - s, by omega, by omega, by rw [hn]; omega, ?_, fun t ht => ?_⟩
  · rw [turn_S hl (by omega), turn_S hl (by omega), turn_W (by omega), turn_W (by omega), ← hl, show xs.length - (xs.length - s) = s by omega, show xs.length - (xs.length - e) = e by omega]
    show _ = -(fitN (rS xs ws) (rW ws) xs.length j) * _
    unfold fitN
    grind
  · rw [hn] at ht
    rw [turn_S hl (by omega), turn_S hl (by omega), turn_W (by omega), turn_W (by omega), ← hl, show xs.length - (xs.length - e) = e by omega]
    have h6 := h5 (xs.length - t) (by omega)
    show -(fitN (rS xs ws) (rW ws) xs.length j) * _ ≤ _
    unfold fitN
    grind
/- means are within the numbers -/

theorem specValidLoads_ok {H : Heap} {a b : AV} {xs ws : List Int} (ha : Ints H a xs) (hb : Ints H b ws) (hl : xs.length ≤ 1000000000) (hl' : ws.length ≤ 1000000000) :
    ACalls Try.prog fn_spec_validLoads [a, b] H fun r H' => r = .bool (decide (Loads xs ws)) ∧ H' = H := by
  refine ACalls.val ?_ rfl
  refine code_spec_validLoads.go [.roI a xs.length xs, .roI b ws.length ws] ⟨⟨rfl, ha⟩, ⟨rfl, hb⟩, trivial⟩ (by simp) ?_
  unfold mc_spec_validLoads
  have no : (Loads xs ws → False) → decide (Loads xs ws) = false := fun h => decide_eq_false h
  (repeat (first | refine gst (hk := ?_) | (show GO _ _ _ _ _ (⟨some _, none, .call _ _⟩ :: _) _; first | (show GO _ _ _ _ _ (⟨some _, none, .call fn_spec_inRange _⟩ :: _) _; refine go_inRange (hk := ?_); try intro u)) | (show GO _ _ _ _ _ (⟨some _, none, _⟩ :: _) _; first | refine go_op (hk := ?_) | (refine go_nw (hk := ?_); intro u; try simp only [llc, lln, lna, lza]) | (refine go_np (hk := ?_); intro id)) | (show GO _ _ _ _ _ (⟨none, none, _⟩ :: _) _; refine go_st (hk := ?_)) | (show GO _ _ _ _ _ (⟨_, some _, _⟩ :: _) _; first | refine go_in (hk := ?_) | refine go_out (hk := ?_) | refine go_void (hk := ?_)) | (show GK _ _ _ _ (blockK _ _ _); refine gk_past rfl ?_) | (show GC _ _ _ _ _ (.cond _ _ _) _; first | refine gc_yes (h1 := ?_) | refine gc_no (h1 := ?_))))
  refine gc_loop (γ := Nat) (fun i => [(0, a), (1, b), (5, .int .i64 (i : Int))]) (fun _ => [.roI a xs.length xs, .roI b ws.length ws]) (fun i => i ≤ ws.length ∧ ∀ j, j < i → 1 ≤ nth ws j ∧ nth ws j ≤ 5) (fun i => ws.length - i) 0 ⟨Nat.zero_le _, fun k hk => by omega⟩ (hb := ?_)
  rintro i ⟨hi, hp⟩ I ν m hk
  (repeat (first | refine gst (hk := ?_) | (show GO _ _ _ _ _ (⟨some _, none, .call _ _⟩ :: _) _; first | (show GO _ _ _ _ _ (⟨some _, none, .call fn_spec_inRange _⟩ :: _) _; refine go_inRange (hk := ?_); try intro u)) | (show GO _ _ _ _ _ (⟨some _, none, _⟩ :: _) _; first | refine go_op (hk := ?_) | (refine go_nw (hk := ?_); intro u; try simp only [llc, lln, lna, lza]) | (refine go_np (hk := ?_); intro id)) | (show GO _ _ _ _ _ (⟨none, none, _⟩ :: _) _; refine go_st (hk := ?_)) | (show GO _ _ _ _ _ (⟨_, some _, _⟩ :: _) _; first | refine go_in (hk := ?_) | refine go_out (hk := ?_) | refine go_void (hk := ?_)) | (show GK _ _ _ _ (blockK _ _ _); refine gk_past rfl ?_) | (show GC _ _ _ _ _ (.cond _ _ _) _; first | refine gc_yes (h1 := ?_) | refine gc_no (h1 := ?_))))
  refine gc_cond rfl (fun h => ?_) (fun h => ?_)
  · (repeat (first | refine gst (hk := ?_) | (show GO _ _ _ _ _ (⟨some _, none, .call _ _⟩ :: _) _; first | (show GO _ _ _ _ _ (⟨some _, none, .call fn_spec_inRange _⟩ :: _) _; refine go_inRange (hk := ?_); try intro u)) | (show GO _ _ _ _ _ (⟨some _, none, _⟩ :: _) _; first | refine go_op (hk := ?_) | (refine go_nw (hk := ?_); intro u; try simp only [llc, lln, lna, lza]) | (refine go_np (hk := ?_); intro id)) | (show GO _ _ _ _ _ (⟨none, none, _⟩ :: _) _; refine go_st (hk := ?_)) | (show GO _ _ _ _ _ (⟨_, some _, _⟩ :: _) _; first | refine go_in (hk := ?_) | refine go_out (hk := ?_) | refine go_void (hk := ?_)) | (show GK _ _ _ _ (blockK _ _ _); refine gk_past rfl ?_) | (show GC _ _ _ _ _ (.cond _ _ _) _; first | refine gc_yes (h1 := ?_) | refine gc_no (h1 := ?_))))
    refine gc_cond rfl (fun h2 => ?_) (fun h2 => ?_)
    · (repeat (first | refine gst (hk := ?_) | (show GO _ _ _ _ _ (⟨some _, none, .call _ _⟩ :: _) _; first | (show GO _ _ _ _ _ (⟨some _, none, .call fn_spec_inRange _⟩ :: _) _; refine go_inRange (hk := ?_); try intro u)) | (show GO _ _ _ _ _ (⟨some _, none, _⟩ :: _) _; first | refine go_op (hk := ?_) | (refine go_nw (hk := ?_); intro u; try simp only [llc, lln, lna, lza]) | (refine go_np (hk := ?_); intro id)) | (show GO _ _ _ _ _ (⟨none, none, _⟩ :: _) _; refine go_st (hk := ?_)) | (show GO _ _ _ _ _ (⟨_, some _, _⟩ :: _) _; first | refine go_in (hk := ?_) | refine go_out (hk := ?_) | refine go_void (hk := ?_)) | (show GK _ _ _ _ (blockK _ _ _); refine gk_past rfl ?_) | (show GC _ _ _ _ _ (.cond _ _ _) _; first | refine gc_yes (h1 := ?_) | refine gc_no (h1 := ?_))))
      exact gk_ret rfl fun H' hH => ⟨by rw [no fun hL => h2 (hL.1 _ (nth_mem (by omega)))]; rfl, hH.leE⟩
    · (repeat (first | refine gst (hk := ?_) | (show GO _ _ _ _ _ (⟨some _, none, .call _ _⟩ :: _) _; first | (show GO _ _ _ _ _ (⟨some _, none, .call fn_spec_inRange _⟩ :: _) _; refine go_inRange (hk := ?_); try intro u)) | (show GO _ _ _ _ _ (⟨some _, none, _⟩ :: _) _; first | refine go_op (hk := ?_) | (refine go_nw (hk := ?_); intro u; try simp only [llc, lln, lna, lza]) | (refine go_np (hk := ?_); intro id)) | (show GO _ _ _ _ _ (⟨none, none, _⟩ :: _) _; refine go_st (hk := ?_)) | (show GO _ _ _ _ _ (⟨_, some _, _⟩ :: _) _; first | refine go_in (hk := ?_) | refine go_out (hk := ?_) | refine go_void (hk := ?_)) | (show GK _ _ _ _ (blockK _ _ _); refine gk_past rfl ?_) | (show GC _ _ _ _ _ (.cond _ _ _) _; first | refine gc_yes (h1 := ?_) | refine gc_no (h1 := ?_))))
      refine gk_next (hk (i + 1) ⟨by omega, fun j hj => ?_⟩ (by omega))
      rcases Nat.lt_or_ge j i with h4 | h4
      · exact hp j h4
      · rw [show j = i by omega]; exact Decidable.not_not.1 h2
  · have : i = ws.length := by omega
    subst this
    (repeat (first | refine gst (hk := ?_) | (show GO _ _ _ _ _ (⟨some _, none, .call _ _⟩ :: _) _; first | (show GO _ _ _ _ _ (⟨some _, none, .call fn_spec_inRange _⟩ :: _) _; refine go_inRange (hk := ?_); try intro u)) | (show GO _ _ _ _ _ (⟨some _, none, _⟩ :: _) _; first | refine go_op (hk := ?_) | (refine go_nw (hk := ?_); intro u; try simp only [llc, lln, lna, lza]) | (refine go_np (hk := ?_); intro id)) | (show GO _ _ _ _ _ (⟨none, none, _⟩ :: _) _; refine go_st (hk := ?_)) | (show GO _ _ _ _ _ (⟨_, some _, _⟩ :: _) _; first | refine go_in (hk := ?_) | refine go_out (hk := ?_) | refine go_void (hk := ?_)) | (show GK _ _ _ _ (blockK _ _ _); refine gk_past rfl ?_) | (show GC _ _ _ _ _ (.cond _ _ _) _; first | refine gc_yes (h1 := ?_) | refine gc_no (h1 := ?_))))
    refine gc_loop (γ := Nat) (fun i => [(0, a), (1, b), (6, .int .i64 (i : Int))]) (fun _ => [.roI a xs.length xs, .roI b ws.length ws]) (fun i => i ≤ xs.length ∧ ∀ j, j < i → -30 ≤ nth xs j ∧ nth xs j ≤ 30) (fun i => xs.length - i) 0 ⟨Nat.zero_le _, fun k hk => by omega⟩ (hb := ?_)
    rintro i ⟨hi2, hp2⟩ I2 ν2 m2 hk2
    (repeat (first | refine gst (hk := ?_) | (show GO _ _ _ _ _ (⟨some _, none, .call _ _⟩ :: _) _; first | (show GO _ _ _ _ _ (⟨some _, none, .call fn_spec_inRange _⟩ :: _) _; refine go_inRange (hk := ?_); try intro u)) | (show GO _ _ _ _ _ (⟨some _, none, _⟩ :: _) _; first | refine go_op (hk := ?_) | (refine go_nw (hk := ?_); intro u; try simp only [llc, lln, lna, lza]) | (refine go_np (hk := ?_); intro id)) | (show GO _ _ _ _ _ (⟨none, none, _⟩ :: _) _; refine go_st (hk := ?_)) | (show GO _ _ _ _ _ (⟨_, some _, _⟩ :: _) _; first | refine go_in (hk := ?_) | refine go_out (hk := ?_) | refine go_void (hk := ?_)) | (show GK _ _ _ _ (blockK _ _ _); refine gk_past rfl ?_) | (show GC _ _ _ _ _ (.cond _ _ _) _; first | refine gc_yes (h1 := ?_) | refine gc_no (h1 := ?_))))
    refine gc_cond rfl (fun h2 => ?_) (fun h2 => ?_)
    · (repeat (first | refine gst (hk := ?_) | (show GO _ _ _ _ _ (⟨some _, none, .call _ _⟩ :: _) _; first | (show GO _ _ _ _ _ (⟨some _, none, .call fn_spec_inRange _⟩ :: _) _; refine go_inRange (hk := ?_); try intro u)) | (show GO _ _ _ _ _ (⟨some _, none, _⟩ :: _) _; first | refine go_op (hk := ?_) | (refine go_nw (hk := ?_); intro u; try simp only [llc, lln, lna, lza]) | (refine go_np (hk := ?_); intro id)) | (show GO _ _ _ _ _ (⟨none, none, _⟩ :: _) _; refine go_st (hk := ?_)) | (show GO _ _ _ _ _ (⟨_, some _, _⟩ :: _) _; first | refine go_in (hk := ?_) | refine go_out (hk := ?_) | refine go_void (hk := ?_)) | (show GK _ _ _ _ (blockK _ _ _); refine gk_past rfl ?_) | (show GC _ _ _ _ _ (.cond _ _ _) _; first | refine gc_yes (h1 := ?_) | refine gc_no (h1 := ?_))))
      refine gc_cond rfl (fun h3 => ?_) (fun h3 => ?_)
      · (repeat (first | refine gst (hk := ?_) | (show GO _ _ _ _ _ (⟨some _, none, .call _ _⟩ :: _) _; first | (show GO _ _ _ _ _ (⟨some _, none, .call fn_spec_inRange _⟩ :: _) _; refine go_inRange (hk := ?_); try intro u)) | (show GO _ _ _ _ _ (⟨some _, none, _⟩ :: _) _; first | refine go_op (hk := ?_) | (refine go_nw (hk := ?_); intro u; try simp only [llc, lln, lna, lza]) | (refine go_np (hk := ?_); intro id)) | (show GO _ _ _ _ _ (⟨none, none, _⟩ :: _) _; refine go_st (hk := ?_)) | (show GO _ _ _ _ _ (⟨_, some _, _⟩ :: _) _; first | refine go_in (hk := ?_) | refine go_out (hk := ?_) | refine go_void (hk := ?_)) | (show GK _ _ _ _ (blockK _ _ _); refine gk_past rfl ?_) | (show GC _ _ _ _ _ (.cond _ _ _) _; first | refine gc_yes (h1 := ?_) | refine gc_no (h1 := ?_))))
        exact gk_ret rfl fun H' hH => ⟨by rw [no fun hL => h3 (hL.2.1 _ (nth_mem (by omega)))]; rfl, hH.leE⟩
      · (repeat (first | refine gst (hk := ?_) | (show GO _ _ _ _ _ (⟨some _, none, .call _ _⟩ :: _) _; first | (show GO _ _ _ _ _ (⟨some _, none, .call fn_spec_inRange _⟩ :: _) _; refine go_inRange (hk := ?_); try intro u)) | (show GO _ _ _ _ _ (⟨some _, none, _⟩ :: _) _; first | refine go_op (hk := ?_) | (refine go_nw (hk := ?_); intro u; try simp only [llc, lln, lna, lza]) | (refine go_np (hk := ?_); intro id)) | (show GO _ _ _ _ _ (⟨none, none, _⟩ :: _) _; refine go_st (hk := ?_)) | (show GO _ _ _ _ _ (⟨_, some _, _⟩ :: _) _; first | refine go_in (hk := ?_) | refine go_out (hk := ?_) | refine go_void (hk := ?_)) | (show GK _ _ _ _ (blockK _ _ _); refine gk_past rfl ?_) | (show GC _ _ _ _ _ (.cond _ _ _) _; first | refine gc_yes (h1 := ?_) | refine gc_no (h1 := ?_))))
        refine gk_next (hk2 (i + 1) ⟨by omega, fun j hj => ?_⟩ (by omega))
        rcases Nat.lt_or_ge j i with h4 | h4
        · exact hp2 j h4
        · rw [show j = i by omega]; exact Decidable.not_not.1 h3
    · have : i = xs.length := by omega
      subst this
      have h5 : ∀ w ∈ ws, 1 ≤ w ∧ w ≤ 5 := fun w hw => by
        obtain ⟨m, hm, rfl⟩ := nth_ex hw
        exact hp m hm
      have h6 : Bd 30 xs := fun x hx => by
        obtain ⟨m, hm, rfl⟩ := nth_ex hx
        exact hp2 m hm
      (repeat (first | refine gst (hk := ?_) | (show GO _ _ _ _ _ (⟨some _, none, .call _ _⟩ :: _) _; first | (show GO _ _ _ _ _ (⟨some _, none, .call fn_spec_inRange _⟩ :: _) _; refine go_inRange (hk := ?_); try intro u)) | (show GO _ _ _ _ _ (⟨some _, none, _⟩ :: _) _; first | refine go_op (hk := ?_) | (refine go_nw (hk := ?_); intro u; try simp only [llc, lln, lna, lza]) | (refine go_np (hk := ?_); intro id)) | (show GO _ _ _ _ _ (⟨none, none, _⟩ :: _) _; refine go_st (hk := ?_)) | (show GO _ _ _ _ _ (⟨_, some _, _⟩ :: _) _; first | refine go_in (hk := ?_) | refine go_out (hk := ?_) | refine go_void (hk := ?_)) | (show GK _ _ _ _ (blockK _ _ _); refine gk_past rfl ?_) | (show GC _ _ _ _ _ (.cond _ _ _) _; first | refine gc_yes (h1 := ?_) | refine gc_no (h1 := ?_))))
      refine go_split 36 rfl (fun h3 => ?_) (fun h3 => ?_)
      · (repeat (first | refine gst (hk := ?_) | (show GO _ _ _ _ _ (⟨some _, none, .call _ _⟩ :: _) _; first | (show GO _ _ _ _ _ (⟨some _, none, .call fn_spec_inRange _⟩ :: _) _; refine go_inRange (hk := ?_); try intro u)) | (show GO _ _ _ _ _ (⟨some _, none, _⟩ :: _) _; first | refine go_op (hk := ?_) | (refine go_nw (hk := ?_); intro u; try simp only [llc, lln, lna, lza]) | (refine go_np (hk := ?_); intro id)) | (show GO _ _ _ _ _ (⟨none, none, _⟩ :: _) _; refine go_st (hk := ?_)) | (show GO _ _ _ _ _ (⟨_, some _, _⟩ :: _) _; first | refine go_in (hk := ?_) | refine go_out (hk := ?_) | refine go_void (hk := ?_)) | (show GK _ _ _ _ (blockK _ _ _); refine gk_past rfl ?_) | (show GC _ _ _ _ _ (.cond _ _ _) _; first | refine gc_yes (h1 := ?_) | refine gc_no (h1 := ?_))))
        exact gk_ret rfl fun H' hH => ⟨by
          simp only [tupleOf]; congr 1
          exact decide_eq_decide.2 ⟨fun h7 => ⟨h5, h6, by omega, by omega, by omega⟩, fun h7 => ⟨by have := h7.2.2.2; omega, by have := h7.2.2.2; omega⟩⟩, hH.leE⟩
      · (repeat (first | refine gst (hk := ?_) | (show GO _ _ _ _ _ (⟨some _, none, .call _ _⟩ :: _) _; first | (show GO _ _ _ _ _ (⟨some _, none, .call fn_spec_inRange _⟩ :: _) _; refine go_inRange (hk := ?_); try intro u)) | (show GO _ _ _ _ _ (⟨some _, none, _⟩ :: _) _; first | refine go_op (hk := ?_) | (refine go_nw (hk := ?_); intro u; try simp only [llc, lln, lna, lza]) | (refine go_np (hk := ?_); intro id)) | (show GO _ _ _ _ _ (⟨none, none, _⟩ :: _) _; refine go_st (hk := ?_)) | (show GO _ _ _ _ _ (⟨_, some _, _⟩ :: _) _; first | refine go_in (hk := ?_) | refine go_out (hk := ?_) | refine go_void (hk := ?_)) | (show GK _ _ _ _ (blockK _ _ _); refine gk_past rfl ?_) | (show GC _ _ _ _ _ (.cond _ _ _) _; first | refine gc_yes (h1 := ?_) | refine gc_no (h1 := ?_))))
        exact gk_ret rfl fun H' hH => ⟨by
          simp only [tupleOf]; congr 1
          exact (no fun h7 => h3 (by have := h7.2.2.1; omega)).symm, hH.leE⟩

theorem Loads.fits {xs ws : List Int} (h : Loads xs ws) {i e i' e' : Nat} (h1 : i < e) (h2 : e ≤ xs.length) (h1' : i' < e') (h2' : e' ≤ xs.length) : FitA (mnR xs ws i e) (mnR xs ws i' e') := by
  have p := h.pos h1 h2
  have p' := h.pos h1' h2'
  have f := h.fd h1 h2
  have f' := h.fd h1' h2'
  generalize sumI ws e - sumI ws i = D at *
  generalize sumI ws e' - sumI ws i' = D' at *
  have m : D * D' ≤ 40 * 40 := Int.mul_le_mul p.2 p'.2 (by omega) (by omega)
  refine fitA_of f f' ?_ ?_ (by omega)
  · rw [Int.mul_assoc]; omega
  · rw [Int.mul_assoc, Int.mul_comm D' D]; omega

theorem specMean_ok {H : Heap} {a b : AV} {xs ws : List Int} {kI : Int} {i e : Nat} (ha : Ints H a xs) (hb : Ints H b ws) (hL : Loads xs ws) (h1 : i < e) (h2 : e ≤ xs.length) (hk : kI = (e : Int) - 1) :
    ACalls Try.prog fn_spec_mean [a, b, .int .i64 (i : Int), .int .i64 kI] H fun r H' => r = frV (mnR xs ws i e) ∧ H' = H := by
  refine ACalls.val ?_ rfl
  have hl := hL.2.2.1
  have hn := hL.2.2.2.2
  refine code_spec_mean.go [.roI a xs.length xs, .roI b ws.length ws] ⟨⟨rfl, ha⟩, ⟨rfl, hb⟩, trivial⟩ (by simp) ?_
  unfold mc_spec_mean
  (repeat (first | refine gst (hk := ?_) | (with_reducible refine gc_drq ?_; intro _) | (show GO _ _ _ _ _ (⟨some _, none, _⟩ :: _) _; first | refine go_op (hk := ?_) | (refine go_nw (hk := ?_); intro u; try simp only [llc, lln, lna, lza]) | (refine go_np (hk := ?_); intro id)) | (show GQ _ _ _ _ _ _ _ (⟨some _, none, _⟩ :: _) _; first | refine gq_op (hk := ?_) | (refine gq_nw (hk := ?_); intro u; try simp only [llc, lln, lna, lza])) | (show GO _ _ _ _ _ (⟨none, none, _⟩ :: _) _; refine go_st (hk := ?_)) | (show GO _ _ _ _ _ (⟨_, some _, _⟩ :: _) _; first | refine go_in (hk := ?_) | refine go_out (hk := ?_) | refine go_void (hk := ?_)) | (show GQ _ _ _ _ _ _ _ (⟨_, some _, _⟩ :: _) _; first | refine gq_in (hk := ?_) | refine gq_out (hk := ?_) | refine gq_void (hk := ?_)) | (show GK _ _ _ _ (blockK _ _ _); refine gk_past rfl ?_) | (show GC _ _ _ _ _ (.cond _ _ _) _; first | refine gc_yes (h1 := ?_) | refine gc_no (h1 := ?_))))
  revert id; intro i8
  refine gc_loop (γ := Nat) (fun d => [(0, a), (1, b), (3, .int .i64 kI), (8, .ptr i8 0), (9, .int .i64 (dotT xs ws (i + d) - dotT xs ws i)), (10, .int .i64 (sumI ws (i + d) - sumI ws i)), (11, .int .i64 ((i + d : Nat) : Int))]) (fun _ => [cel0 i8, .roI a xs.length xs, .roI b ws.length ws]) (fun d => i + d ≤ e) (fun d => e - (i + d)) 0 (by omega) (hE := by rw [Nat.add_zero, Int.sub_self, Int.sub_self]; (repeat (refine Cov.cons (by exact rfl) ?_)); exact Cov.nil) (hb := ?_)
  intro d hd I ν m hk2
  have hs := hL.sums (i := i) (e := i + d) (by omega) (by omega)
  (repeat (first | refine gst (hk := ?_) | (with_reducible refine gc_drq ?_; intro _) | (show GO _ _ _ _ _ (⟨some _, none, _⟩ :: _) _; first | refine go_op (hk := ?_) | (refine go_nw (hk := ?_); intro u; try simp only [llc, lln, lna, lza]) | (refine go_np (hk := ?_); intro id)) | (show GQ _ _ _ _ _ _ _ (⟨some _, none, _⟩ :: _) _; first | refine gq_op (hk := ?_) | (refine gq_nw (hk := ?_); intro u; try simp only [llc, lln, lna, lza])) | (show GO _ _ _ _ _ (⟨none, none, _⟩ :: _) _; refine go_st (hk := ?_)) | (show GO _ _ _ _ _ (⟨_, some _, _⟩ :: _) _; first | refine go_in (hk := ?_) | refine go_out (hk := ?_) | refine go_void (hk := ?_)) | (show GQ _ _ _ _ _ _ _ (⟨_, some _, _⟩ :: _) _; first | refine gq_in (hk := ?_) | refine gq_out (hk := ?_) | refine gq_void (hk := ?_)) | (show GK _ _ _ _ (blockK _ _ _); refine gk_past rfl ?_) | (show GC _ _ _ _ _ (.cond _ _ _) _; first | refine gc_yes (h1 := ?_) | refine gc_no (h1 := ?_))))
  refine gc_cond rfl (fun h => ?_) (fun h => ?_)
  · have hw := hL.w (i := i + d) (by omega)
    have hx := hL.x (i + d)
    have m1 : nth xs (i + d) * nth ws (i + d) ≤ 30 * nth ws (i + d) := Int.mul_le_mul_of_nonneg_right hx.2 (by omega)
    have m2 : -30 * nth ws (i + d) ≤ nth xs (i + d) * nth ws (i + d) := Int.mul_le_mul_of_nonneg_right hx.1 (by omega)
    have hk3 := hk2 (d + 1) (by omega) (by omega)
    rw [show dotT xs ws (i + (d + 1)) = dotT xs ws (i + d) + nth xs (i + d) * nth ws (i + d) from rfl, show sumI ws (i + (d + 1)) = sumI ws (i + d) + nth ws (i + d) from rfl] at hk3
    generalize hP : nth xs (i + d) * nth ws (i + d) = P at *
    (repeat (first | refine gst (hk := ?_) | (with_reducible refine gc_drq ?_; intro _) | (show GO _ _ _ _ _ (⟨some _, none, _⟩ :: _) _; first | refine go_op (hk := ?_) | (refine go_nw (hk := ?_); intro u; try simp only [llc, lln, lna, lza]) | (refine go_np (hk := ?_); intro id)) | (show GQ _ _ _ _ _ _ _ (⟨some _, none, _⟩ :: _) _; first | refine gq_op (hk := ?_) | (refine gq_nw (hk := ?_); intro u; try simp only [llc, lln, lna, lza])) | (show GO _ _ _ _ _ (⟨none, none, _⟩ :: _) _; refine go_st (hk := ?_)) | (show GO _ _ _ _ _ (⟨_, some _, _⟩ :: _) _; first | refine go_in (hk := ?_) | refine go_out (hk := ?_) | refine go_void (hk := ?_)) | (show GQ _ _ _ _ _ _ _ (⟨_, some _, _⟩ :: _) _; first | refine gq_in (hk := ?_) | refine gq_out (hk := ?_) | refine gq_void (hk := ?_)) | (show GK _ _ _ _ (blockK _ _ _); refine gk_past rfl ?_) | (show GC _ _ _ _ _ (.cond _ _ _) _; first | refine gc_yes (h1 := ?_) | refine gc_no (h1 := ?_))))
    rw [hP]
    (repeat (first | refine gst (hk := ?_) | (with_reducible refine gc_drq ?_; intro _) | (show GO _ _ _ _ _ (⟨some _, none, _⟩ :: _) _; first | refine go_op (hk := ?_) | (refine go_nw (hk := ?_); intro u; try simp only [llc, lln, lna, lza]) | (refine go_np (hk := ?_); intro id)) | (show GQ _ _ _ _ _ _ _ (⟨some _, none, _⟩ :: _) _; first | refine gq_op (hk := ?_) | (refine gq_nw (hk := ?_); intro u; try simp only [llc, lln, lna, lza])) | (show GO _ _ _ _ _ (⟨none, none, _⟩ :: _) _; refine go_st (hk := ?_)) | (show GO _ _ _ _ _ (⟨_, some _, _⟩ :: _) _; first | refine go_in (hk := ?_) | refine go_out (hk := ?_) | refine go_void (hk := ?_)) | (show GQ _ _ _ _ _ _ _ (⟨_, some _, _⟩ :: _) _; first | refine gq_in (hk := ?_) | refine gq_out (hk := ?_) | refine gq_void (hk := ?_)) | (show GK _ _ _ _ (blockK _ _ _); refine gk_past rfl ?_) | (show GC _ _ _ _ _ (.cond _ _ _) _; first | refine gc_yes (h1 := ?_) | refine gc_no (h1 := ?_))))
    exact gk_next hk3
  · obtain rfl : i + d = e := by omega
    (repeat (first | refine gst (hk := ?_) | (with_reducible refine gc_drq ?_; intro _) | (show GO _ _ _ _ _ (⟨some _, none, _⟩ :: _) _; first | refine go_op (hk := ?_) | (refine go_nw (hk := ?_); intro u; try simp only [llc, lln, lna, lza]) | (refine go_np (hk := ?_); intro id)) | (show GQ _ _ _ _ _ _ _ (⟨some _, none, _⟩ :: _) _; first | refine gq_op (hk := ?_) | (refine gq_nw (hk := ?_); intro u; try simp only [llc, lln, lna, lza])) | (show GO _ _ _ _ _ (⟨none, none, _⟩ :: _) _; refine go_st (hk := ?_)) | (show GO _ _ _ _ _ (⟨_, some _, _⟩ :: _) _; first | refine go_in (hk := ?_) | refine go_out (hk := ?_) | refine go_void (hk := ?_)) | (show GQ _ _ _ _ _ _ _ (⟨_, some _, _⟩ :: _) _; first | refine gq_in (hk := ?_) | refine gq_out (hk := ?_) | refine gq_void (hk := ?_)) | (show GK _ _ _ _ (blockK _ _ _); refine gk_past rfl ?_) | (show GC _ _ _ _ _ (.cond _ _ _) _; first | refine gc_yes (h1 := ?_) | refine gc_no (h1 := ?_))))
    refine go_callp rfl code_spec_frac.callable (fun H hH => frac_ok (by omega) (by omega) (by omega)) ?_
    (repeat (first | refine gst (hk := ?_) | (with_reducible refine gc_drq ?_; intro _) | (show GO _ _ _ _ _ (⟨some _, none, _⟩ :: _) _; first | refine go_op (hk := ?_) | (refine go_nw (hk := ?_); intro u; try simp only [llc, lln, lna, lza]) | (refine go_np (hk := ?_); intro id)) | (show GQ _ _ _ _ _ _ _ (⟨some _, none, _⟩ :: _) _; first | refine gq_op (hk := ?_) | (refine gq_nw (hk := ?_); intro u; try simp only [llc, lln, lna, lza])) | (show GO _ _ _ _ _ (⟨none, none, _⟩ :: _) _; refine go_st (hk := ?_)) | (show GO _ _ _ _ _ (⟨_, some _, _⟩ :: _) _; first | refine go_in (hk := ?_) | refine go_out (hk := ?_) | refine go_void (hk := ?_)) | (show GQ _ _ _ _ _ _ _ (⟨_, some _, _⟩ :: _) _; first | refine gq_in (hk := ?_) | refine gq_out (hk := ?_) | refine gq_void (hk := ?_)) | (show GK _ _ _ _ (blockK _ _ _); refine gk_past rfl ?_) | (show GC _ _ _ _ _ (.cond _ _ _) _; first | refine gc_yes (h1 := ?_) | refine gc_no (h1 := ?_))))
    exact gk_rets (rvs_c rfl (by exact Sel.auto) rfl rfl rvs_nil) fun H' hH => ⟨rfl, hH.leE⟩

theorem dopsC_mono {P : Program} {Qt : FuncId → List AV → Option AV} {base : Nat} {C C' : List (List Nat × List Nat) → Prop} {K : St → Prop} {prs : List (Nat × Nat)} (hC : ∀ acc, C acc → C' acc) : ∀ {l : List MI} {k : Nat} {s : St} {acc : List (List Nat × List Nat)}, dopsC P Qt base k l s acc prs C K → dopsC P Qt base k l s acc prs C' K
  | [], k, s, acc, h => ⟨⟨h.1.1, hC acc h.1.2⟩, h.2⟩
  | m :: r, k, s, acc, h => by
    simp only [dopsC] at h ⊢
    split at h
    · exact dopsC_mono hC h
    · exact h.elim

theorem gc_drw4n {P : Program} {A : Heap} {X : List Nat} {E : List (Nat × AV)} {S : Sig} {Q : Exit → St → Prop} {prs : List (Nat × Nat)} {l : List MI} (Qt : FuncId → List AV → Option AV) (hQ : ∀ H0 H, SOk A X S H0.size H0 → (∀ id, id < H0.size → H.get id = H0.get id) → QtOk P Qt H)
    (h : ∀ H0, SOk A X S H0.size H0 → GD4 P Qt H0.size 0 A X E S [] prs l (fun acc => ∀ f ∈ acc, ∀ id ∈ f.2, H0.size ≤ id) (Q .normal)) : GC P A X E S (.drw l prs) Q :=
  gc_drw4 Qt fun H0 hH0 => ⟨fun s m h1 h2 h3 => dopsC_mono (fun acc ha H hH => hQ H0 H hH0 fun id hid => hH id fun f hf h4 => absurd (ha f hf id h4) (by omega)) ((h H0 hH0).g s m h1 h2 h3)⟩

theorem pairs_on {fs : List (List Nat × List Nat)} {i j k base : Nat} {fi : List Nat} {r : List (Nat × Nat)} (hi : fs[i]? = some (fi, [])) (hj : fs[j]? = some ([], [base + k])) (h : ∀ id ∈ fi, id < base) (hr : pairsOk fs r) : pairsOk fs ((i, j) :: r) :=
  pairs_one hi hj (by simp) (fun id h1 h2 => by simp only [List.mem_singleton] at h1; have := h id h2; omega) hr

theorem vid_old {A : Heap} {X : List Nat} {S : Sig} {H0 : Heap} {v : AV} {es n : Nat} {cs : List AV} {i : Nat} (h : SOk A X S H0.size H0) (hh : Has S v es n cs) : ∀ j ∈ vid (v.elem i), j < H0.size := by
  intro j hj
  refine (h.valsA hh).bid j ?_
  cases v <;> simp [AV.elem, vid] at hj <;> simp [AV.bid, hj]

theorem gd4_op {P : Program} {Qt : FuncId → List AV → Option AV} {base k : Nat} {A : Heap} {X : List Nat} {E : List (Nat × AV)} {S S' : Sig} {acc : List (List Nat × List Nat)} {prs : List (Nat × Nat)} {C : List (List Nat × List Nat) → Prop} {K : St → Prop} {r : List MI} {d : Nat} {v : AV} {op : MOp} (hs : Stp A X E S op (Is v S') := by exact stp_auto) (hq : (!op.isCall && !writes op && !reads op) = true := by exact rfl) (hk : GD4 P Qt base (k + 1) A X ((d, v) :: E) S' (acc ++ [([], [])]) prs r C K) : GD4 P Qt base k A X E S acc prs (⟨some d, none, op⟩ :: r) C K := gd4_is hq hs hk

def preW : AV → Nat → AV
  | .slice id off _ cap es, h => .slice id off h cap es
  | v, _ => v

noncomputable def fiL (xs ws : List Int) : Nat → List Rat
  | 0 => []
  | k + 1 => fiL xs ws k ++ [fiR xs ws k]

theorem fiL_len (xs ws : List Int) : ∀ k, (fiL xs ws k).length = k
  | 0 => rfl
  | k + 1 => by rw [fiL, List.length_append, fiL_len]; rfl

theorem nth_fiL {xs ws : List Int} : ∀ {k j : Nat}, j < k → nthR (fiL xs ws k) j = fiR xs ws j
  | 0, j, h => absurd h (by omega)
  | k + 1, j, h => by
    rw [fiL]
    rcases Nat.lt_or_ge j k with h1 | h1
    · rw [nthR_app (by rw [fiL_len]; exact h1), nth_fiL h1]
    · have e : j = (fiL xs ws k).length := by rw [fiL_len]; omega
      rw [e, nthR_last, fiL_len]

noncomputable def riO (xs ws : List Int) : List Rat := if Loads xs ws then fiL xs ws xs.length else []

theorem riO_len {xs ws : List Int} (h : Loads xs ws) : riO xs ws = fiL xs ws xs.length ∧ (riO xs ws).length = xs.length := by
  unfold riO; rw [if_pos h]; exact ⟨rfl, fiL_len _ _ _⟩

theorem specRiseByHull_ok {H : Heap} {a b : AV} {xs ws : List Int} (ha : Ints H a xs) (hb : Ints H b ws) (hl : xs.length ≤ 1000000000) (hl' : ws.length ≤ 1000000000) :
    ACalls Try.prog fn_spec_RiseByHull [a, b] H fun r H' => Own H H' r 2 (riO xs ws).length (frs (riO xs ws)) ∧ Le H H' := by
  refine code_spec_RiseByHull.go [.roI a xs.length xs, .roI b ws.length ws] ⟨⟨rfl, ha⟩, ⟨rfl, hb⟩, trivial⟩ (by simp) ?_
  unfold mc_spec_RiseByHull
  (repeat (first | refine gst (hk := ?_) | (show GO _ _ _ _ _ (⟨some _, none, .call _ _⟩ :: _) _; first | (refine go_callp rfl code_spec_validLoads.callable (fun H hH => specValidLoads_ok (hH.ints (by exact Has.auto)) (hH.ints (by exact Has.auto)) (by omega) (by omega)) ?_)) | (show GO _ _ _ _ _ (⟨some _, none, _⟩ :: _) _; first | refine go_op (hk := ?_) | (refine go_nw (hk := ?_); intro u; try simp only [llc, lln, lna, lza]) | (refine go_np (hk := ?_); intro id)) | (show GO _ _ _ _ _ (⟨none, none, _⟩ :: _) _; refine go_st (hk := ?_)) | (show GO _ _ _ _ _ (⟨_, some _, _⟩ :: _) _; first | refine go_in (hk := ?_) | refine go_out (hk := ?_) | refine go_void (hk := ?_)) | (show GK _ _ _ _ (blockK _ _ _); refine gk_past rfl ?_) | (show GC _ _ _ _ _ (.cond _ _ _) _; first | refine gc_yes (h1 := ?_) | refine gc_no (h1 := ?_))))
  refine gc_cond rfl (fun h => ?_) (fun h => ?_)
  · (repeat (first | refine gst (hk := ?_) | (show GO _ _ _ _ _ (⟨some _, none, .call _ _⟩ :: _) _; first | (refine go_callp rfl code_spec_validLoads.callable (fun H hH => specValidLoads_ok (hH.ints (by exact Has.auto)) (hH.ints (by exact Has.auto)) (by omega) (by omega)) ?_)) | (show GO _ _ _ _ _ (⟨some _, none, _⟩ :: _) _; first | refine go_op (hk := ?_) | (refine go_nw (hk := ?_); intro u; try simp only [llc, lln, lna, lza]) | (refine go_np (hk := ?_); intro id)) | (show GO _ _ _ _ _ (⟨none, none, _⟩ :: _) _; refine go_st (hk := ?_)) | (show GO _ _ _ _ _ (⟨_, some _, _⟩ :: _) _; first | refine go_in (hk := ?_) | refine go_out (hk := ?_) | refine go_void (hk := ?_)) | (show GK _ _ _ _ (blockK _ _ _); refine gk_past rfl ?_) | (show GC _ _ _ _ _ (.cond _ _ _) _; first | refine gc_yes (h1 := ?_) | refine gc_no (h1 := ?_))))
    refine gk_ret rfl fun H' hH => ⟨?_, hH.leE⟩
    unfold riO; rw [if_neg h]
    exact Own.nil _ _ _
  have hL := Decidable.not_not.1 h
  rw [(riO_len hL).2, (riO_len hL).1]
  have hl3 := hL.2.2.1
  have hn := hL.2.2.2.2
  (repeat (first | refine gst (hk := ?_) | (show GO _ _ _ _ _ (⟨some _, none, .call _ _⟩ :: _) _; first | (refine go_callp rfl code_spec_validLoads.callable (fun H hH => specValidLoads_ok (hH.ints (by exact Has.auto)) (hH.ints (by exact Has.auto)) (by omega) (by omega)) ?_)) | (show GO _ _ _ _ _ (⟨some _, none, _⟩ :: _) _; first | refine go_op (hk := ?_) | (refine go_nw (hk := ?_); intro u; try simp only [llc, lln, lna, lza]) | (refine go_np (hk := ?_); intro id)) | (show GO _ _ _ _ _ (⟨none, none, _⟩ :: _) _; refine go_st (hk := ?_)) | (show GO _ _ _ _ _ (⟨_, some _, _⟩ :: _) _; first | refine go_in (hk := ?_) | refine go_out (hk := ?_) | refine go_void (hk := ?_)) | (show GK _ _ _ _ (blockK _ _ _); refine gk_past rfl ?_) | (show GC _ _ _ _ _ (.cond _ _ _) _; first | refine gc_yes (h1 := ?_) | refine gc_no (h1 := ?_))))
  refine go_new rfl stp_bsl0 ?_
  intro u
  (repeat (first | refine gst (hk := ?_) | (show GO _ _ _ _ _ (⟨some _, none, .call _ _⟩ :: _) _; first | (refine go_callp rfl code_spec_validLoads.callable (fun H hH => specValidLoads_ok (hH.ints (by exact Has.auto)) (hH.ints (by exact Has.auto)) (by omega) (by omega)) ?_)) | (show GO _ _ _ _ _ (⟨some _, none, _⟩ :: _) _; first | refine go_op (hk := ?_) | (refine go_nw (hk := ?_); intro u; try simp only [llc, lln, lna, lza]) | (refine go_np (hk := ?_); intro id)) | (show GO _ _ _ _ _ (⟨none, none, _⟩ :: _) _; refine go_st (hk := ?_)) | (show GO _ _ _ _ _ (⟨_, some _, _⟩ :: _) _; first | refine go_in (hk := ?_) | refine go_out (hk := ?_) | refine go_void (hk := ?_)) | (show GK _ _ _ _ (blockK _ _ _); refine gk_past rfl ?_) | (show GC _ _ _ _ _ (.cond _ _ _) _; first | refine gc_yes (h1 := ?_) | refine gc_no (h1 := ?_))))
  refine gc_loop (γ := Nat × AV) (fun g => [(0, a), (1, b), (5, g.2), (6, .int .i64 (g.1 : Int))]) (fun g => [rwF g.2 g.1 (fiL xs ws g.1), .roI a xs.length xs, .roI b ws.length ws]) (fun g => g.1 ≤ xs.length ∧ OnH (rS xs ws) (rW ws) xs.length g.1) (fun g => xs.length - g.1) (0, u) ⟨Nat.zero_le _, .inl rfl⟩ (hb := ?_)
  rintro ⟨i, u1⟩ ⟨hi, hon⟩ I ν m hk
  simp only at hi hon hk ⊢
  (repeat (first | refine gst (hk := ?_) | (show GO _ _ _ _ _ (⟨some _, none, .call _ _⟩ :: _) _; first | (refine go_callp rfl code_spec_validLoads.callable (fun H hH => specValidLoads_ok (hH.ints (by exact Has.auto)) (hH.ints (by exact Has.auto)) (by omega) (by omega)) ?_)) | (show GO _ _ _ _ _ (⟨some _, none, _⟩ :: _) _; first | refine go_op (hk := ?_) | (refine go_nw (hk := ?_); intro u; try simp only [llc, lln, lna, lza]) | (refine go_np (hk := ?_); intro id)) | (show GO _ _ _ _ _ (⟨none, none, _⟩ :: _) _; refine go_st (hk := ?_)) | (show GO _ _ _ _ _ (⟨_, some _, _⟩ :: _) _; first | refine go_in (hk := ?_) | refine go_out (hk := ?_) | refine go_void (hk := ?_)) | (show GK _ _ _ _ (blockK _ _ _); refine gk_past rfl ?_) | (show GC _ _ _ _ _ (.cond _ _ _) _; first | refine gc_yes (h1 := ?_) | refine gc_no (h1 := ?_))))
  refine gc_cond rfl (fun h1 => ?_) (fun h1 => ?_)
  · (repeat (first | refine gst (hk := ?_) | (show GO _ _ _ _ _ (⟨some _, none, .call _ _⟩ :: _) _; first | (refine go_callp rfl code_spec_validLoads.callable (fun H hH => specValidLoads_ok (hH.ints (by exact Has.auto)) (hH.ints (by exact Has.auto)) (by omega) (by omega)) ?_)) | (show GO _ _ _ _ _ (⟨some _, none, _⟩ :: _) _; first | refine go_op (hk := ?_) | (refine go_nw (hk := ?_); intro u; try simp only [llc, lln, lna, lza]) | (refine go_np (hk := ?_); intro id)) | (show GO _ _ _ _ _ (⟨none, none, _⟩ :: _) _; refine go_st (hk := ?_)) | (show GO _ _ _ _ _ (⟨_, some _, _⟩ :: _) _; first | refine go_in (hk := ?_) | refine go_out (hk := ?_) | refine go_void (hk := ?_)) | (show GK _ _ _ _ (blockK _ _ _); refine gk_past rfl ?_) | (show GC _ _ _ _ _ (.cond _ _ _) _; first | refine gc_yes (h1 := ?_) | refine gc_no (h1 := ?_))))
    refine go_callp rfl code_spec_mean.callable (fun H hH => specMean_ok (i := i) (e := i + 1) (hH.ints (by exact Has.auto)) (hH.ints (by exact Has.auto)) hL (by omega) (by omega) (by omega)) ?_
    (repeat (first | refine gst (hk := ?_) | (show GO _ _ _ _ _ (⟨some _, none, .call _ _⟩ :: _) _; first | (refine go_callp rfl code_spec_validLoads.callable (fun H hH => specValidLoads_ok (hH.ints (by exact Has.auto)) (hH.ints (by exact Has.auto)) (by omega) (by omega)) ?_)) | (show GO _ _ _ _ _ (⟨some _, none, _⟩ :: _) _; first | refine go_op (hk := ?_) | (refine go_nw (hk := ?_); intro u; try simp only [llc, lln, lna, lza]) | (refine go_np (hk := ?_); intro id)) | (show GO _ _ _ _ _ (⟨none, none, _⟩ :: _) _; refine go_st (hk := ?_)) | (show GO _ _ _ _ _ (⟨_, some _, _⟩ :: _) _; first | refine go_in (hk := ?_) | refine go_out (hk := ?_) | refine go_void (hk := ?_)) | (show GK _ _ _ _ (blockK _ _ _); refine gk_past rfl ?_) | (show GC _ _ _ _ _ (.cond _ _ _) _; first | refine gc_yes (h1 := ?_) | refine gc_no (h1 := ?_))))
    revert id; intro i8
    refine gc_loop (γ := Nat × Nat) (fun g => [(0, a), (1, b), (5, u1), (6, .int .i64 (i : Int)), (7, .int .i64 (g.2 : Int)), (8, .ptr i8 0), (9, .int .i64 (g.1 : Int))]) (fun g => [celF i8 (mnR xs ws i (g.2 + 1)), rwF u1 i (fiL xs ws i), .roI a xs.length xs, .roI b ws.length ws]) (fun g => (i + 1 ≤ g.1 ∧ g.1 ≤ xs.length) ∧ (i ≤ g.2 ∧ g.2 < g.1) ∧ ∀ k, i ≤ k → k < g.1 → mnR xs ws i (g.2 + 1) ≤ mnR xs ws i (k + 1)) (fun g => xs.length - g.1) (i + 1, i) ⟨⟨Nat.le_refl _, by dsimp only; omega⟩, ⟨Nat.le_refl _, by dsimp only; omega⟩, fun k h2 h3 => (by dsimp only at h3 ⊢; obtain rfl : k = i := (by omega); exact Rat.le_refl)⟩ (hb := ?_)
    rintro ⟨k, t⟩ ⟨⟨hk1, hk2⟩, ⟨ht1, ht2⟩, hle⟩ I2 ν2 m2 hk3
    simp only at hk1 hk2 ht1 ht2 hle hk3 ⊢
    (repeat (first | refine gst (hk := ?_) | (show GO _ _ _ _ _ (⟨some _, none, .call _ _⟩ :: _) _; first | (refine go_callp rfl code_spec_validLoads.callable (fun H hH => specValidLoads_ok (hH.ints (by exact Has.auto)) (hH.ints (by exact Has.auto)) (by omega) (by omega)) ?_)) | (show GO _ _ _ _ _ (⟨some _, none, _⟩ :: _) _; first | refine go_op (hk := ?_) | (refine go_nw (hk := ?_); intro u; try simp only [llc, lln, lna, lza]) | (refine go_np (hk := ?_); intro id)) | (show GO _ _ _ _ _ (⟨none, none, _⟩ :: _) _; refine go_st (hk := ?_)) | (show GO _ _ _ _ _ (⟨_, some _, _⟩ :: _) _; first | refine go_in (hk := ?_) | refine go_out (hk := ?_) | refine go_void (hk := ?_)) | (show GK _ _ _ _ (blockK _ _ _); refine gk_past rfl ?_) | (show GC _ _ _ _ _ (.cond _ _ _) _; first | refine gc_yes (h1 := ?_) | refine gc_no (h1 := ?_))))
    refine gc_cond rfl (fun h2 => ?_) (fun h2 => ?_)
    · (repeat (first | refine gst (hk := ?_) | (show GO _ _ _ _ _ (⟨some _, none, .call _ _⟩ :: _) _; first | (refine go_callp rfl code_spec_validLoads.callable (fun H hH => specValidLoads_ok (hH.ints (by exact Has.auto)) (hH.ints (by exact Has.auto)) (by omega) (by omega)) ?_)) | (show GO _ _ _ _ _ (⟨some _, none, _⟩ :: _) _; first | refine go_op (hk := ?_) | (refine go_nw (hk := ?_); intro u; try simp only [llc, lln, lna, lza]) | (refine go_np (hk := ?_); intro id)) | (show GO _ _ _ _ _ (⟨none, none, _⟩ :: _) _; refine go_st (hk := ?_)) | (show GO _ _ _ _ _ (⟨_, some _, _⟩ :: _) _; first | refine go_in (hk := ?_) | refine go_out (hk := ?_) | refine go_void (hk := ?_)) | (show GK _ _ _ _ (blockK _ _ _); refine gk_past rfl ?_) | (show GC _ _ _ _ _ (.cond _ _ _) _; first | refine gc_yes (h1 := ?_) | refine gc_no (h1 := ?_))))
      refine go_callp rfl code_spec_mean.callable (fun H hH => specMean_ok (i := i) (e := k + 1) (hH.ints (by exact Has.auto)) (hH.ints (by exact Has.auto)) hL (by omega) (by omega) (by omega)) ?_
      (repeat (first | refine gst (hk := ?_) | (show GO _ _ _ _ _ (⟨some _, none, .call _ _⟩ :: _) _; first | (refine go_callp rfl code_spec_validLoads.callable (fun H hH => specValidLoads_ok (hH.ints (by exact Has.auto)) (hH.ints (by exact Has.auto)) (by omega) (by omega)) ?_)) | (show GO _ _ _ _ _ (⟨some _, none, _⟩ :: _) _; first | refine go_op (hk := ?_) | (refine go_nw (hk := ?_); intro u; try simp only [llc, lln, lna, lza]) | (refine go_np (hk := ?_); intro id)) | (show GO _ _ _ _ _ (⟨none, none, _⟩ :: _) _; refine go_st (hk := ?_)) | (show GO _ _ _ _ _ (⟨_, some _, _⟩ :: _) _; first | refine go_in (hk := ?_) | refine go_out (hk := ?_) | refine go_void (hk := ?_)) | (show GK _ _ _ _ (blockK _ _ _); refine gk_past rfl ?_) | (show GC _ _ _ _ _ (.cond _ _ _) _; first | refine gc_yes (h1 := ?_) | refine gc_no (h1 := ?_))))
      revert id; intro i10
      refine go_callp rfl code_spec_less.callable (fun H hH => specLess_ok (hL.fits (by omega) (by omega) (by omega) (by omega))) ?_
      (repeat (first | refine gst (hk := ?_) | (show GO _ _ _ _ _ (⟨some _, none, .call _ _⟩ :: _) _; first | (refine go_callp rfl code_spec_validLoads.callable (fun H hH => specValidLoads_ok (hH.ints (by exact Has.auto)) (hH.ints (by exact Has.auto)) (by omega) (by omega)) ?_)) | (show GO _ _ _ _ _ (⟨some _, none, _⟩ :: _) _; first | refine go_op (hk := ?_) | (refine go_nw (hk := ?_); intro u; try simp only [llc, lln, lna, lza]) | (refine go_np (hk := ?_); intro id)) | (show GO _ _ _ _ _ (⟨none, none, _⟩ :: _) _; refine go_st (hk := ?_)) | (show GO _ _ _ _ _ (⟨_, some _, _⟩ :: _) _; first | refine go_in (hk := ?_) | refine go_out (hk := ?_) | refine go_void (hk := ?_)) | (show GK _ _ _ _ (blockK _ _ _); refine gk_past rfl ?_) | (show GC _ _ _ _ _ (.cond _ _ _) _; first | refine gc_yes (h1 := ?_) | refine gc_no (h1 := ?_))))
      refine gc_cond rfl (fun h3 => ?_) (fun h3 => ?_)
      · (repeat (first | refine gst (hk := ?_) | (show GO _ _ _ _ _ (⟨some _, none, .call _ _⟩ :: _) _; first | (refine go_callp rfl code_spec_validLoads.callable (fun H hH => specValidLoads_ok (hH.ints (by exact Has.auto)) (hH.ints (by exact Has.auto)) (by omega) (by omega)) ?_)) | (show GO _ _ _ _ _ (⟨some _, none, _⟩ :: _) _; first | refine go_op (hk := ?_) | (refine go_nw (hk := ?_); intro u; try simp only [llc, lln, lna, lza]) | (refine go_np (hk := ?_); intro id)) | (show GO _ _ _ _ _ (⟨none, none, _⟩ :: _) _; refine go_st (hk := ?_)) | (show GO _ _ _ _ _ (⟨_, some _, _⟩ :: _) _; first | refine go_in (hk := ?_) | refine go_out (hk := ?_) | refine go_void (hk := ?_)) | (show GK _ _ _ _ (blockK _ _ _); refine gk_past rfl ?_) | (show GC _ _ _ _ _ (.cond _ _ _) _; first | refine gc_yes (h1 := ?_) | refine gc_no (h1 := ?_))))
        refine gk_next (hk3 (k + 1, k) ⟨⟨by dsimp only; omega, by dsimp only; omega⟩, ⟨by dsimp only; omega, by dsimp only; omega⟩, fun j j1 j2 => ?_⟩ (by dsimp only; omega))
        dsimp only at j2 ⊢
        rcases Nat.lt_or_ge j k with h4 | h4
        · exact Rat.le_trans (Rat.not_lt.1 h3) (hle j j1 h4)
        · rw [show j = k by omega]; exact Rat.le_refl
      · (repeat (first | refine gst (hk := ?_) | (show GO _ _ _ _ _ (⟨some _, none, .call _ _⟩ :: _) _; first | (refine go_callp rfl code_spec_validLoads.callable (fun H hH => specValidLoads_ok (hH.ints (by exact Has.auto)) (hH.ints (by exact Has.auto)) (by omega) (by omega)) ?_)) | (show GO _ _ _ _ _ (⟨some _, none, _⟩ :: _) _; first | refine go_op (hk := ?_) | (refine go_nw (hk := ?_); intro u; try simp only [llc, lln, lna, lza]) | (refine go_np (hk := ?_); intro id)) | (show GO _ _ _ _ _ (⟨none, none, _⟩ :: _) _; refine go_st (hk := ?_)) | (show GO _ _ _ _ _ (⟨_, some _, _⟩ :: _) _; first | refine go_in (hk := ?_) | refine go_out (hk := ?_) | refine go_void (hk := ?_)) | (show GK _ _ _ _ (blockK _ _ _); refine gk_past rfl ?_) | (show GC _ _ _ _ _ (.cond _ _ _) _; first | refine gc_yes (h1 := ?_) | refine gc_no (h1 := ?_))))
        refine gk_next (hk3 (k + 1, t) ⟨⟨by dsimp only; omega, by dsimp only; omega⟩, ⟨by dsimp only; omega, by dsimp only; omega⟩, fun j j1 j2 => ?_⟩ (by dsimp only; omega))
        dsimp only at j2 ⊢
        rcases Nat.lt_or_ge j k with h4 | h4
        · exact hle j j1 h4
        · rw [show j = k by omega]; exact Rat.le_of_lt (Decidable.not_not.1 h3)
    · obtain rfl : k = xs.length := by omega
      obtain ⟨g1, g2⟩ := hon.step hL.asc ht1 ht2 (c := mnR xs ws i (t + 1)) (fun k k1 k2 => by rw [mnR_mnA]; exact hle k k1 k2) (mnR_mnA _ _ _ _).symm
      (repeat (first | refine gst (hk := ?_) | (show GO _ _ _ _ _ (⟨some _, none, .call _ _⟩ :: _) _; first | (refine go_callp rfl code_spec_validLoads.callable (fun H hH => specValidLoads_ok (hH.ints (by exact Has.auto)) (hH.ints (by exact Has.auto)) (by omega) (by omega)) ?_)) | (show GO _ _ _ _ _ (⟨some _, none, _⟩ :: _) _; first | refine go_op (hk := ?_) | (refine go_nw (hk := ?_); intro u; try simp only [llc, lln, lna, lza]) | (refine go_np (hk := ?_); intro id)) | (show GO _ _ _ _ _ (⟨none, none, _⟩ :: _) _; refine go_st (hk := ?_)) | (show GO _ _ _ _ _ (⟨_, some _, _⟩ :: _) _; first | refine go_in (hk := ?_) | refine go_out (hk := ?_) | refine go_void (hk := ?_)) | (show GK _ _ _ _ (blockK _ _ _); refine gk_past rfl ?_) | (show GC _ _ _ _ _ (.cond _ _ _) _; first | refine gc_yes (h1 := ?_) | refine gc_no (h1 := ?_))))
      refine gc_loop (γ := Nat × AV) (fun g => [(0, a), (1, b), (5, g.2), (6, .int .i64 (g.1 : Int)), (7, .int .i64 (t : Int)), (8, .ptr i8 0)]) (fun g => [celF i8 (mnR xs ws i (t + 1)), rwF g.2 g.1 (fiL xs ws g.1), .roI a xs.length xs, .roI b ws.length ws]) (fun g => i ≤ g.1 ∧ g.1 ≤ t + 1) (fun g => t + 1 - g.1) (i, u1) ⟨Nat.le_refl _, by dsimp only; omega⟩ (hb := ?_)
      rintro ⟨j, u2⟩ ⟨hj1, hj2⟩ I3 ν3 m3 hk4
      simp only at hj1 hj2 hk4 ⊢
      have hfl := fiL_len xs ws j
      (repeat (first | refine gst (hk := ?_) | (show GO _ _ _ _ _ (⟨some _, none, .call _ _⟩ :: _) _; first | (refine go_callp rfl code_spec_validLoads.callable (fun H hH => specValidLoads_ok (hH.ints (by exact Has.auto)) (hH.ints (by exact Has.auto)) (by omega) (by omega)) ?_)) | (show GO _ _ _ _ _ (⟨some _, none, _⟩ :: _) _; first | refine go_op (hk := ?_) | (refine go_nw (hk := ?_); intro u; try simp only [llc, lln, lna, lza]) | (refine go_np (hk := ?_); intro id)) | (show GO _ _ _ _ _ (⟨none, none, _⟩ :: _) _; refine go_st (hk := ?_)) | (show GO _ _ _ _ _ (⟨_, some _, _⟩ :: _) _; first | refine go_in (hk := ?_) | refine go_out (hk := ?_) | refine go_void (hk := ?_)) | (show GK _ _ _ _ (blockK _ _ _); refine gk_past rfl ?_) | (show GC _ _ _ _ _ (.cond _ _ _) _; first | refine gc_yes (h1 := ?_) | refine gc_no (h1 := ?_))))
      refine gc_cond rfl (fun h3 => ?_) (fun h3 => ?_)
      · have hval : mnR xs ws i (t + 1) = fiR xs ws j := ((g1 j hj1 (by omega)).fit hL.asc).symm
        (repeat (first | refine gst (hk := ?_) | (show GO _ _ _ _ _ (⟨some _, none, .call _ _⟩ :: _) _; first | (refine go_callp rfl code_spec_validLoads.callable (fun H hH => specValidLoads_ok (hH.ints (by exact Has.auto)) (hH.ints (by exact Has.auto)) (by omega) (by omega)) ?_)) | (show GO _ _ _ _ _ (⟨some _, none, _⟩ :: _) _; first | refine go_op (hk := ?_) | (refine go_nw (hk := ?_); intro u; try simp only [llc, lln, lna, lza]) | (refine go_np (hk := ?_); intro id)) | (show GO _ _ _ _ _ (⟨none, none, _⟩ :: _) _; refine go_st (hk := ?_)) | (show GO _ _ _ _ _ (⟨_, some _, _⟩ :: _) _; first | refine go_in (hk := ?_) | refine go_out (hk := ?_) | refine go_void (hk := ?_)) | (show GK _ _ _ _ (blockK _ _ _); refine gk_past rfl ?_) | (show GC _ _ _ _ _ (.cond _ _ _) _; first | refine gc_yes (h1 := ?_) | refine gc_no (h1 := ?_))))
        refine go_new rfl (stp_appF (M := [mnR xs ws i (t + 1)]) rfl rfl (by exact Sel.auto) (by exact Has.auto) (by omega)) ?_
        intro u4
        rw [hval, show fiL xs ws j ++ [fiR xs ws j] = fiL xs ws (j + 1) from rfl]
        (repeat (first | refine gst (hk := ?_) | (show GO _ _ _ _ _ (⟨some _, none, .call _ _⟩ :: _) _; first | (refine go_callp rfl code_spec_validLoads.callable (fun H hH => specValidLoads_ok (hH.ints (by exact Has.auto)) (hH.ints (by exact Has.auto)) (by omega) (by omega)) ?_)) | (show GO _ _ _ _ _ (⟨some _, none, _⟩ :: _) _; first | refine go_op (hk := ?_) | (refine go_nw (hk := ?_); intro u; try simp only [llc, lln, lna, lza]) | (refine go_np (hk := ?_); intro id)) | (show GO _ _ _ _ _ (⟨none, none, _⟩ :: _) _; refine go_st (hk := ?_)) | (show GO _ _ _ _ _ (⟨_, some _, _⟩ :: _) _; first | refine go_in (hk := ?_) | refine go_out (hk := ?_) | refine go_void (hk := ?_)) | (show GK _ _ _ _ (blockK _ _ _); refine gk_past rfl ?_) | (show GC _ _ _ _ _ (.cond _ _ _) _; first | refine gc_yes (h1 := ?_) | refine gc_no (h1 := ?_))))
        rw [← hval]
        exact gk_next (hk4 (j + 1, u4) ⟨by dsimp only; omega, by dsimp only; omega⟩ (by dsimp only; omega))
      · obtain rfl : j = t + 1 := by omega
        (repeat (first | refine gst (hk := ?_) | (show GO _ _ _ _ _ (⟨some _, none, .call _ _⟩ :: _) _; first | (refine go_callp rfl code_spec_validLoads.callable (fun H hH => specValidLoads_ok (hH.ints (by exact Has.auto)) (hH.ints (by exact Has.auto)) (by omega) (by omega)) ?_)) | (show GO _ _ _ _ _ (⟨some _, none, _⟩ :: _) _; first | refine go_op (hk := ?_) | (refine go_nw (hk := ?_); intro u; try simp only [llc, lln, lna, lza]) | (refine go_np (hk := ?_); intro id)) | (show GO _ _ _ _ _ (⟨none, none, _⟩ :: _) _; refine go_st (hk := ?_)) | (show GO _ _ _ _ _ (⟨_, some _, _⟩ :: _) _; first | refine go_in (hk := ?_) | refine go_out (hk := ?_) | refine go_void (hk := ?_)) | (show GK _ _ _ _ (blockK _ _ _); refine gk_past rfl ?_) | (show GC _ _ _ _ _ (.cond _ _ _) _; first | refine gc_yes (h1 := ?_) | refine gc_no (h1 := ?_))))
        exact gk_next (hk (t + 1, u2) ⟨by dsimp only; omega, g2⟩ (by dsimp only; omega))
  · obtain rfl : i = xs.length := by omega
    (repeat (first | refine gst (hk := ?_) | (show GO _ _ _ _ _ (⟨some _, none, .call _ _⟩ :: _) _; first | (refine go_callp rfl code_spec_validLoads.callable (fun H hH => specValidLoads_ok (hH.ints (by exact Has.auto)) (hH.ints (by exact Has.auto)) (by omega) (by omega)) ?_)) | (show GO _ _ _ _ _ (⟨some _, none, _⟩ :: _) _; first | refine go_op (hk := ?_) | (refine go_nw (hk := ?_); intro u; try simp only [llc, lln, lna, lza]) | (refine go_np (hk := ?_); intro id)) | (show GO _ _ _ _ _ (⟨none, none, _⟩ :: _) _; refine go_st (hk := ?_)) | (show GO _ _ _ _ _ (⟨_, some _, _⟩ :: _) _; first | refine go_in (hk := ?_) | refine go_out (hk := ?_) | refine go_void (hk := ?_)) | (show GK _ _ _ _ (blockK _ _ _); refine gk_past rfl ?_) | (show GC _ _ _ _ _ (.cond _ _ _) _; first | refine gc_yes (h1 := ?_) | refine gc_no (h1 := ?_))))
    exact gk_ret rfl fun H' hH => hH.give (by exact Sel.auto)

theorem Loads.d_fd {xs ws : List Int} (h : Loads xs ws) {j : Nat} (hj : j < xs.length) : ∃ V : Int, (1 ≤ V ∧ V ≤ 40) ∧ FD (fiR xs ws j) V (30 * V) ∧ FD (((nth xs j : Int) : Rat) - fiR xs ws j) V (60 * V) := by
  obtain ⟨i, u, h1, h2, h3, h4⟩ := h.fit_is hj
  have hp := h.pos (i := i) (e := u) (by omega) h3
  have hf := h.fd (i := i) (e := u) (by omega) h3
  rw [← h4] at hf
  generalize sumI ws u - sumI ws i = V at *
  refine ⟨V, hp, hf, ?_⟩
  have hx := (FD.int (h.x j)).lift (m := V) (by omega)
  have := (hx.to (D' := V) (by omega)).sub hf
  exact this.mono (by omega)

theorem Loads.take {xs ws : List Int} (h : Loads xs ws) {k : Nat} (h1 : 1 ≤ k) (h2 : k ≤ xs.length) : Loads (xs.take k) (ws.take k) := by
  obtain ⟨g1, g2, g3, g4, g5⟩ := h
  exact ⟨fun w hw => g1 w (List.mem_of_mem_take hw), fun x hx => g2 x (List.mem_of_mem_take hx), by rw [List.length_take, List.length_take]; omega, by rw [List.length_take]; omega, by rw [List.length_take]; omega⟩

end Go.Rx.Try
