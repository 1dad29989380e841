/-
  RxT: symbolic states: what is known of slots, and of blocks.
-/
import Derived.Test.YtophpmdlgphihapRxR
namespace Go.Rx
set_option linter.unusedVariables false
set_option linter.unusedSimpArgs false

abbrev Env := List (Nat × AV)

def look : List (Nat × AV) → Nat → Option AV
  | [], _ => none
  | (j, v) :: r, i => bif Nat.beq j i then some v else look r i

def evE (E : List (Nat × AV)) : MX → Option AV
  | .t i => look E i
  | .c v => some v

def evsE (E : List (Nat × AV)) : List MX → Option (List AV)
  | [] => some []
  | x :: r => match evE E x, evsE E r with
    | some a, some l => some (a :: l)
    | _, _ => none

inductive Kd where
  | ro
  | rw
  | cell

def Kd.wr : Kd → Bool
  | .ro => false
  | _ => true

/-- what is known of a block: read only, one's own, or one's own by its address -/
structure Ch where
  k : Kd
  v : AV
  es : Nat
  n : Nat
  cs : List AV

abbrev Sig := List Ch

abbrev Ch.roI (v : AV) (n : Nat) (xs : List Int) : Ch := ⟨.ro, v, 1, n, ints xs⟩
abbrev Ch.rwI (v : AV) (n : Nat) (xs : List Int) : Ch := ⟨.rw, v, 1, n, ints xs⟩

structure LeX (A H : Heap) (X : List Nat) : Prop where
  size : A.size ≤ H.size
  get : ∀ id, id < A.size → id ∉ X → H.get id = A.get id
  ob : H.ob = A.ob

theorem LeX.refl (A : Heap) (X : List Nat) : LeX A A X := ⟨Nat.le_refl _, fun _ _ _ => rfl, rfl⟩
theorem LeX.toLe {A H : Heap} (h : LeX A H []) : Le A H := ⟨h.size, fun id hi => h.get id hi (by simp), h.ob⟩
theorem Le.toX {A H : Heap} (h : Le A H) (X : List Nat) : LeX A H X := ⟨h.size, fun id hi _ => h.get id hi, h.ob⟩

def ChOk (A : Heap) (X : List Nat) (m : Nat) (H : Heap) (c : Ch) : Prop :=
  (∀ k, c.v.bid = some k → k < m) ∧
  match c.k with
  | .ro => c.v.isSlice = true ∧ c.v.len = c.n ∧ (c.v = .nilSlice ∨ c.v.es = some c.es) ∧ c.cs.length = c.n * c.es ∧ H.row c.v = some c.cs
  | .rw => c.cs.length = c.n * c.es ∧ ((c.v = .nilSlice ∧ c.n = 0) ∨ ∃ id, c.v = .slice id 0 c.n none c.es ∧ (A.size ≤ id ∨ id ∈ X) ∧ H.get id = some ⟨true, c.cs⟩)
  | .cell => ∃ id, c.v = .ptr id 0 ∧ (A.size ≤ id ∨ id ∈ X) ∧ H.get id = some ⟨true, c.cs⟩

def Apart (c d : Ch) : Prop := (c.k.wr = true ∨ d.k.wr = true) → ∀ k, c.v.bid = some k → d.v.bid ≠ some k

theorem Apart.symm {c d : Ch} (h : Apart c d) : Apart d c := fun hw k h1 h2 => h hw.symm k h2 h1

structure SOk (A : Heap) (X : List Nat) (S : Sig) (m : Nat) (H : Heap) : Prop where
  le : LeX A H X
  am : A.size ≤ m
  mh : m ≤ H.size
  ch : ∀ c ∈ S, ChOk A X m H c
  ap : S.Pairwise Apart

theorem ChOk.mono {A : Heap} {X : List Nat} {m m' : Nat} {H H' : Heap} {c : Ch} (h : ChOk A X m H c) (hm : m ≤ m') (hg : ∀ k, c.v.bid = some k → H'.get k = H.get k) : ChOk A X m' H' c := by
  refine ⟨fun k hk => Nat.lt_of_lt_of_le (h.1 k hk) hm, ?_⟩
  have h2 := h.2
  cases hk : c.k with
  | ro =>
    rw [hk] at h2
    simp only at h2 ⊢
    rw [row_get hg]; exact h2
  | rw =>
    rw [hk] at h2
    simp only at h2 ⊢
    refine ⟨h2.1, ?_⟩
    rcases h2.2 with h3 | ⟨id, h3, h4, h5⟩
    · exact .inl h3
    · exact .inr ⟨id, h3, h4, by rw [hg id (by rw [h3]; rfl)]; exact h5⟩
  | cell =>
    rw [hk] at h2
    simp only at h2 ⊢
    obtain ⟨id, h3, h4, h5⟩ := h2
    exact ⟨id, h3, h4, by rw [hg id (by rw [h3]; rfl)]; exact h5⟩

/-- a writable block is one's own -/
theorem ChOk.own {A : Heap} {X : List Nat} {m : Nat} {H : Heap} {c : Ch} (h : ChOk A X m H c) (hw : c.k.wr = true) {k : Nat} (hk : c.v.bid = some k) : A.size ≤ k ∨ k ∈ X := by
  have h2 := h.2
  cases hc : c.k with
  | ro => rw [hc] at hw; cases hw
  | rw =>
    rw [hc] at h2
    simp only at h2
    rcases h2.2 with ⟨h3, _⟩ | ⟨id, h3, h4, h5⟩
    · rw [h3] at hk; cases hk
    · rw [h3] at hk; simp only [AV.bid, Option.some.injEq] at hk; subst hk; exact h4
  | cell =>
    rw [hc] at h2
    simp only at h2
    obtain ⟨id, h3, h4, h5⟩ := h2
    rw [h3] at hk; simp only [AV.bid, Option.some.injEq] at hk; subst hk; exact h4

theorem SOk.bump {A : Heap} {X : List Nat} {S : Sig} {m m' : Nat} {H : Heap} (h : SOk A X S m H) (hm : m ≤ m') (hh : m' ≤ H.size) : SOk A X S m' H :=
  ⟨h.le, Nat.le_trans h.am hm, hh, fun c hc => (h.ch c hc).mono hm fun _ _ => rfl, h.ap⟩

/-- one of the blocks, and the others -/
inductive Sel : Sig → Ch → Sig → Prop
  | head {c : Ch} {S : Sig} : Sel (c :: S) c S
  | tail {c d : Ch} {S S' : Sig} (h : Sel S c S') : Sel (d :: S) c (d :: S')

theorem Sel.mem {S S' : Sig} {c : Ch} (h : Sel S c S') : c ∈ S ∧ ∀ d, d ∈ S' → d ∈ S := by
  induction h with
  | head => exact ⟨by simp, fun d hd => by simp [hd]⟩
  | tail h ih => exact ⟨by simp [ih.1], fun d hd => by
      rcases List.mem_cons.1 hd with rfl | hd
      · simp
      · simp [ih.2 d hd]⟩

theorem Sel.ap {S S' : Sig} {c : Ch} (h : Sel S c S') (hp : S.Pairwise Apart) : (c :: S').Pairwise Apart := by
  induction h with
  | head => exact hp
  | tail h ih =>
    rw [List.pairwise_cons] at hp
    have h1 := ih hp.2
    rw [List.pairwise_cons] at h1
    rw [List.pairwise_cons, List.pairwise_cons]
    refine ⟨fun d hd => ?_, fun d hd => hp.1 d (h.mem.2 d hd), h1.2⟩
    rcases List.mem_cons.1 hd with rfl | hd
    · exact (hp.1 _ h.mem.1).symm
    · exact h1.1 d hd

theorem SOk.sel {A : Heap} {X : List Nat} {S S' : Sig} {m : Nat} {H : Heap} {c : Ch} (h : SOk A X S m H) (hs : Sel S c S') : SOk A X (c :: S') m H :=
  ⟨h.le, h.am, h.mh, fun d hd => by
    rcases List.mem_cons.1 hd with rfl | hd
    · exact h.ch _ hs.mem.1
    · exact h.ch d (hs.mem.2 d hd), hs.ap h.ap⟩

theorem SOk.tail {A : Heap} {X : List Nat} {S : Sig} {m : Nat} {H : Heap} {c : Ch} (h : SOk A X (c :: S) m H) : SOk A X S m H :=
  ⟨h.le, h.am, h.mh, fun d hd => h.ch d (by simp [hd]), (List.pairwise_cons.1 h.ap).2⟩

/-- some of the blocks -/
inductive Sub : Sig → Sig → Prop
  | nil {S : Sig} : Sub S []
  | cons {S R S' : Sig} {c : Ch} (h : Sel S c R) (h' : Sub R S') : Sub S (c :: S')

theorem SOk.sub {A : Heap} {X : List Nat} {S S' : Sig} {m : Nat} {H : Heap} (hs : Sub S S') (h : SOk A X S m H) : SOk A X S' m H := by
  have key : (∀ c ∈ S', c ∈ S) ∧ (S.Pairwise Apart → S'.Pairwise Apart) := by
    clear h
    induction hs with
    | nil => exact ⟨by simp, fun _ => List.Pairwise.nil⟩
    | cons h h' ih =>
      refine ⟨fun d hd => ?_, fun hp => ?_⟩
      · rcases List.mem_cons.1 hd with rfl | hd
        · exact h.mem.1
        · exact h.mem.2 d (ih.1 d hd)
      · have h1 := h.ap hp
        rw [List.pairwise_cons] at h1 ⊢
        exact ⟨fun d hd => h1.1 d (ih.1 d hd), ih.2 h1.2⟩
  exact ⟨h.le, h.am, h.mh, fun c hc => h.ch c (key.1 c hc), key.2 h.ap⟩

/-- a new block -/
theorem SOk.add {A : Heap} {X : List Nat} {S : Sig} {m m' : Nat} {H H' : Heap} {c : Ch} (h : SOk A X S m H) (hg : ∀ id, id < m → H'.get id = H.get id) (hm : m ≤ m') (hh : m' ≤ H'.size) (hc : ChOk A X m' H' c) (hb : ∀ k, c.v.bid = some k → m ≤ k) (ho : H'.ob = H.ob := by rfl) : SOk A X (c :: S) m' H' := by
  have ham := h.am
  refine ⟨⟨by omega, fun id hi hx => by rw [hg id (by omega)]; exact h.le.get id hi hx, ho.trans h.le.ob⟩, by omega, hh, ?_, ?_⟩
  · intro d hd
    rcases List.mem_cons.1 hd with rfl | hd
    · exact hc
    · exact (h.ch d hd).mono hm fun k hk => hg k ((h.ch d hd).1 k hk)
  · rw [List.pairwise_cons]
    refine ⟨fun d hd _ k h1 h2 => ?_, h.ap⟩
    have := (h.ch d hd).1 k h2
    have := hb k h1
    omega

theorem SOk.same {A : Heap} {X : List Nat} {S : Sig} {m m' : Nat} {H H' : Heap} (h : SOk A X S m H) (hg : ∀ id, id < m → H'.get id = H.get id) (hm : m ≤ m') (hh : m' ≤ H'.size) (ho : H'.ob = H.ob := by rfl) : SOk A X S m' H' := by
  have ham := h.am
  exact ⟨⟨by omega, fun id hi hx => by rw [hg id (by omega)]; exact h.le.get id hi hx, ho.trans h.le.ob⟩, by omega, hh, fun d hd => (h.ch d hd).mono hm fun k hk => hg k ((h.ch d hd).1 k hk), h.ap⟩

/-- a block of one's own is changed, or laid elsewhere -/
theorem SOk.mod {A : Heap} {X : List Nat} {S : Sig} {m m' : Nat} {H H' : Heap} {c c' : Ch} (h : SOk A X (c :: S) m H) (hw : c.k.wr = true) (hg : ∀ id, id < m → c.v.bid ≠ some id → H'.get id = H.get id) (hm : m ≤ m') (hh : m' ≤ H'.size) (hc : ChOk A X m' H' c') (hb : c'.v.bid = c.v.bid ∨ ∀ k, c'.v.bid = some k → m ≤ k) (ho : H'.ob = H.ob := by rfl) : SOk A X (c' :: S) m' H' := by
  have ham := h.am
  have hap := List.pairwise_cons.1 h.ap
  have hne : ∀ d ∈ S, ∀ k, d.v.bid = some k → c.v.bid ≠ some k := fun d hd k hk hck => hap.1 d hd (.inl hw) k hck hk
  refine ⟨⟨by omega, fun id hi hx => ?_, ho.trans h.le.ob⟩, by omega, hh, ?_, ?_⟩
  · rw [hg id (by omega)]
    · exact h.le.get id hi hx
    · intro hck
      rcases (h.ch c (by simp)).own hw hck with h1 | h1
      · omega
      · exact hx h1
  · intro d hd
    rcases List.mem_cons.1 hd with rfl | hd
    · exact hc
    · have hd' := h.ch d (by simp [hd])
      exact hd'.mono hm fun k hk => hg k (hd'.1 k hk) (hne d hd k hk)
  · rw [List.pairwise_cons]
    refine ⟨fun d hd _ k h1 h2 => ?_, hap.2⟩
    rcases hb with hb | hb
    · rw [hb] at h1; exact hne d hd k h2 h1
    · have := (h.ch d (by simp [hd])).1 k h2
      have := hb k h1
      omega

/-- what is known of a block is read only from now on -/
theorem SOk.freeze {A : Heap} {X : List Nat} {S : Sig} {m : Nat} {H : Heap} {v : AV} {es n : Nat} {cs : List AV} (h : SOk A X (⟨.rw, v, es, n, cs⟩ :: S) m H) : SOk A X (⟨.ro, v, es, n, cs⟩ :: S) m H := by
  have hap := List.pairwise_cons.1 h.ap
  refine ⟨h.le, h.am, h.mh, fun d hd => ?_, ?_⟩
  · rcases List.mem_cons.1 hd with rfl | hd
    · have hc := h.ch ⟨.rw, v, es, n, cs⟩ (by simp)
      refine ⟨hc.1, ?_⟩
      obtain ⟨h1, h2⟩ := hc.2
      have hlt := hc.1
      simp only at h1 h2 hlt ⊢
      have hown : Own ⟨0, fun _ => none, fun _ => none⟩ H v es n cs := ⟨h1, by
        rcases h2 with h2 | ⟨id, h3, _, h5⟩
        · exact .inl h2
        · refine .inr ⟨id, h3, Nat.zero_le _, ?_, h5⟩
          have := hlt id (by rw [h3]; rfl)
          have := h.mh
          omega⟩
      have hv := hown.vals
      exact ⟨hv.sl, hv.len, hv.esn, hv.cells, hv.row⟩
    · exact h.ch d (by simp [hd])
  · rw [List.pairwise_cons]
    exact ⟨fun d hd _ k h1 h2 => hap.1 d hd (.inl rfl) k h1 h2, hap.2⟩

/-- a slice that is there -/
inductive Has : Sig → AV → Nat → Nat → List AV → Prop
  | ro {S : Sig} {v : AV} {es n : Nat} {cs : List AV} : Has (⟨.ro, v, es, n, cs⟩ :: S) v es n cs
  | rw {S : Sig} {v : AV} {es n : Nat} {cs : List AV} : Has (⟨.rw, v, es, n, cs⟩ :: S) v es n cs
  | tail {S : Sig} {c : Ch} {v : AV} {es n : Nat} {cs : List AV} (h : Has S v es n cs) : Has (c :: S) v es n cs

theorem SOk.valsA {A : Heap} {X : List Nat} {S : Sig} {m : Nat} {H : Heap} {v : AV} {es n : Nat} {cs : List AV} (hh : Has S v es n cs) (h : SOk A X S m H) : Vals H v es n cs := by
  induction hh with
  | @ro S v es n cs =>
    have hc := h.ch ⟨.ro, v, es, n, cs⟩ (by simp)
    obtain ⟨h1, h2, h3, h4, h5, h6⟩ := hc
    exact ⟨h2, h3, h4, h5, h6, fun k hk => Nat.lt_of_lt_of_le (h1 k hk) h.mh⟩
  | @rw S v es n cs =>
    have hc := (h.freeze).ch ⟨.ro, v, es, n, cs⟩ (by simp)
    obtain ⟨h1, h2, h3, h4, h5, h6⟩ := hc
    exact ⟨h2, h3, h4, h5, h6, fun k hk => Nat.lt_of_lt_of_le (h1 k hk) h.mh⟩
  | tail hh ih => exact ih h.tail

theorem SOk.ints {A : Heap} {X : List Nat} {S : Sig} {m : Nat} {H : Heap} {v : AV} {n : Nat} {xs : List Int} (h : SOk A X S m H) (hh : Has S v 1 n (ints xs)) : Ints H v xs := by
  have hv := h.valsA hh
  have : n = xs.length := by have := hv.cells; simpa [Rx.ints] using this.symm
  subst this
  exact hv

/-- what is known of a state -/
structure Fit (A : Heap) (X : List Nat) (E : List (Nat × AV)) (S : Sig) (s : St) : Prop where
  env : ∀ i v, look E i = some v → s.τ i = v
  ok : SOk A X S s.H.size s.H

theorem ev_of {E : List (Nat × AV)} {τ : Nat → AV} (h : ∀ i v, look E i = some v → τ i = v) {x : MX} {v : AV} (hx : evE E x = some v) : x.ev τ = v := by
  cases x with
  | t i => exact h i v hx
  | c w => simp only [evE, Option.some.injEq] at hx; exact hx

theorem evs_of {E : List (Nat × AV)} {τ : Nat → AV} (h : ∀ i v, look E i = some v → τ i = v) : ∀ {l : List MX} {vs : List AV}, evsE E l = some vs → l.map (·.ev τ) = vs
  | [], vs, hl => by simp only [evsE, Option.some.injEq] at hl; subst hl; rfl
  | x :: l, vs, hl => by
    simp only [evsE] at hl
    split at hl
    · rename_i a r ha hr
      simp only [Option.some.injEq] at hl; subst hl
      rw [List.map_cons, ev_of h ha, evs_of h hr]
    · cases hl

theorem look_cons {E : List (Nat × AV)} {τ : Nat → AV} (h : ∀ i v, look E i = some v → τ i = v) (d : Nat) (v : AV) : ∀ i w, look ((d, v) :: E) i = some w → upd τ d v i = w := by
  intro i w hw
  simp only [look] at hw
  simp only [upd]
  by_cases hi : i = d
  · subst hi
    have : Nat.beq i i = true := by simp
    rw [this] at hw
    simp only [cond_true, Option.some.injEq] at hw
    rw [if_pos rfl]; exact hw
  · have : Nat.beq d i = false := by
      cases hb : Nat.beq d i with
      | true => exact absurd (Nat.eq_of_beq_eq_true hb).symm hi
      | false => rfl
    rw [this] at hw
    rw [if_neg hi]
    exact h i w hw

/-- what slots are to hold -/
inductive Cov (E : List (Nat × AV)) : List (Nat × AV) → Prop
  | nil : Cov E []
  | cons {i : Nat} {v : AV} {r : List (Nat × AV)} (h : look E i = some v) (h' : Cov E r) : Cov E ((i, v) :: r)

theorem Cov.consv {E : List (Nat × AV)} {i : Nat} {v v' : AV} {r : List (Nat × AV)} (h : look E i = some v') (hv : v' = v) (h' : Cov E r) : Cov E ((i, v) :: r) := .cons (by rw [h, hv]) h'

theorem Cov.look {E F : List (Nat × AV)} (hc : Cov E F) : ∀ i v, look F i = some v → Rx.look E i = some v := by
  induction hc with
  | nil => intro i v h; simp [Rx.look] at h
  | @cons j w r hj hc ih =>
    intro i v h
    simp only [Rx.look] at h
    cases hb : Nat.beq j i with
    | true =>
      rw [hb] at h
      simp only [cond_true, Option.some.injEq] at h
      have := Nat.eq_of_beq_eq_true hb
      subst this
      rw [← h]; exact hj
    | false =>
      rw [hb] at h
      exact ih i v h

theorem Fit.cov {A : Heap} {X : List Nat} {E F : List (Nat × AV)} {S S' : Sig} {s : St} (h : Fit A X E S s) (hc : Cov E F) (hs : Sub S S') : Fit A X F S' s :=
  ⟨fun i v hi => h.env i v (hc.look i v hi), h.ok.sub hs⟩

end Go.Rx
