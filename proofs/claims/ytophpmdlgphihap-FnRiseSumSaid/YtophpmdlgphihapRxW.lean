/-
  RxW: a call that yields a plain value leaves no trace.
-/
import Derived.Test.YtophpmdlgphihapRxV
namespace Go.Rx
set_option linter.unusedVariables false
set_option linter.unusedSimpArgs false

mutual
/-- no address in it -/
def AV.plain : AV → Bool
  | .bool _ | .int _ _ | .str _ | .nilPtr | .gl _ _ | .nilSlice | .nilFunc | .nilIface => true
  | .func _ cs => plainL cs
  | .bound _ v => v.plain
  | .iface _ v => v.plain
  | .agg cs => plainL cs
  | .tuple cs => plainL cs
  | .nilMap => true
  | _ => false
def plainL : List AV → Bool
  | [] => true
  | a :: l => a.plain && plainL l
end

mutual
theorem VRel.plain {ι ι' : Nat → Option Ref} : ∀ (a : AV) (v : Value), a.plain = true → VRel ι' a v → VRel ι a v
  | .any, _, h, _ => by simp [AV.plain] at h
  | .bool b, v, _, hv => by simpa [VRel] using hv
  | .int k n, v, _, hv => by simpa [VRel] using hv
  | .str s, v, _, hv => by simpa [VRel] using hv
  | .ptr id off, v, h, hv => by simp [AV.plain] at h
  | .nilPtr, v, _, hv => by simpa [VRel] using hv
  | .gl g off, v, _, hv => by simpa [VRel] using hv
  | .slice id off n cap es, v, h, hv => by simp [AV.plain] at h
  | .nilSlice, v, _, hv => by simpa [VRel] using hv
  | .func f cs, v, h, hv => by
    simp only [VRel] at hv ⊢
    obtain ⟨vs, rfl, hl⟩ := hv
    exact ⟨vs, rfl, VRelL.plain _ _ (by simpa [AV.plain] using h) hl⟩
  | .yld id, v, h, hv => by simp [AV.plain] at h
  | .bound f x, v, h, hv => by
    simp only [VRel] at hv ⊢
    obtain ⟨y, rfl, hl⟩ := hv
    exact ⟨y, rfl, VRel.plain _ _ (by simpa [AV.plain] using h) hl⟩
  | .nilFunc, v, _, hv => by simpa [VRel] using hv
  | .iface t x, v, h, hv => by
    simp only [VRel] at hv ⊢
    obtain ⟨y, rfl, hl⟩ := hv
    exact ⟨y, rfl, VRel.plain _ _ (by simpa [AV.plain] using h) hl⟩
  | .nilIface, v, _, hv => by simpa [VRel] using hv
  | .agg cs, v, h, hv => by
    simp only [VRel] at hv ⊢
    obtain ⟨vs, rfl, hl⟩ := hv
    exact ⟨vs, rfl, VRelL.plain _ _ (by simpa [AV.plain] using h) hl⟩
  | .tuple cs, v, h, hv => by
    simp only [VRel] at hv ⊢
    obtain ⟨vs, rfl, hl⟩ := hv
    exact ⟨vs, rfl, VRelL.plain _ _ (by simpa [AV.plain] using h) hl⟩
  | .map id, v, h, hv => by simp [AV.plain] at h
  | .nilMap, v, _, hv => by simpa [VRel] using hv
theorem VRelL.plain {ι ι' : Nat → Option Ref} : ∀ (a : List AV) (v : List Value), plainL a = true → VRelL ι' a v → VRelL ι a v
  | [], v, _, hv => by simpa [VRelL] using hv
  | a :: l, v, h, hv => by
    simp only [plainL, Bool.and_eq_true] at h
    simp only [VRelL] at hv ⊢
    obtain ⟨x, r, rfl, hx, hr⟩ := hv
    exact ⟨x, r, rfl, VRel.plain _ _ h.1 hx, VRelL.plain _ _ h.2 hr⟩
end

mutual
/-- where the places of a value are known already -/
theorem VRel.back {ι ι' : Nat → Option Ref} (hle : Ref.le ι ι') : ∀ (a : AV) (v0 v : Value), VRel ι a v0 → VRel ι' a v → VRel ι a v
  | .any, _, _, _, _ => by simp [VRel]
  | .dfl _, _, _, _, _ => by simp [VRel]
  | .bool b, _, v, _, hv => by simpa [VRel] using hv
  | .int k n, _, v, _, hv => by simpa [VRel] using hv
  | .str s, _, v, _, hv => by simpa [VRel] using hv
  | .ptr id off, v0, v, h0, hv => by
    simp only [VRel] at h0 hv ⊢
    obtain ⟨r0, hr0, _⟩ := h0
    obtain ⟨r, hr, rfl⟩ := hv
    rw [hle _ _ hr0, Option.some.injEq] at hr; subst hr
    exact ⟨r0, hr0, rfl⟩
  | .nilPtr, _, v, _, hv => by simpa [VRel] using hv
  | .gl g off, _, v, _, hv => by simpa [VRel] using hv
  | .slice id off n cap es, v0, v, h0, hv => by
    simp only [VRel] at h0 hv ⊢
    obtain ⟨r0, _, _, hr0, _⟩ := h0
    obtain ⟨r, a, c, hr, rest⟩ := hv
    rw [hle _ _ hr0, Option.some.injEq] at hr; subst hr
    exact ⟨r0, a, c, hr0, rest⟩
  | .nilSlice, _, v, _, hv => by simpa [VRel] using hv
  | .func f cs, v0, v, h0, hv => by
    simp only [VRel] at h0 hv ⊢
    obtain ⟨vs0, rfl, hl0⟩ := h0
    obtain ⟨vs, rfl, hl⟩ := hv
    exact ⟨vs, rfl, VRelL.back hle _ _ _ hl0 hl⟩
  | .yld id, v0, v, h0, hv => by
    simp only [VRel] at h0 hv ⊢
    obtain ⟨r0, hr0, _⟩ := h0
    obtain ⟨r, hr, rfl⟩ := hv
    rw [hle _ _ hr0, Option.some.injEq] at hr; subst hr
    exact ⟨r0, hr0, rfl⟩
  | .bound f x, v0, v, h0, hv => by
    simp only [VRel] at h0 hv ⊢
    obtain ⟨y0, rfl, hl0⟩ := h0
    obtain ⟨y, rfl, hl⟩ := hv
    exact ⟨y, rfl, VRel.back hle _ _ _ hl0 hl⟩
  | .imeth name t x, v0, v, h0, hv => by
    simp only [VRel] at h0 hv ⊢
    obtain ⟨y0, rfl, hl0⟩ := h0
    obtain ⟨y, rfl, hl⟩ := hv
    exact ⟨y, rfl, VRel.back hle _ _ _ hl0 hl⟩
  | .nilFunc, _, v, _, hv => by simpa [VRel] using hv
  | .iface t x, v0, v, h0, hv => by
    simp only [VRel] at h0 hv ⊢
    obtain ⟨y0, rfl, hl0⟩ := h0
    obtain ⟨y, rfl, hl⟩ := hv
    exact ⟨y, rfl, VRel.back hle _ _ _ hl0 hl⟩
  | .nilIface, _, v, _, hv => by simpa [VRel] using hv
  | .agg cs, v0, v, h0, hv => by
    simp only [VRel] at h0 hv ⊢
    obtain ⟨vs0, rfl, hl0⟩ := h0
    obtain ⟨vs, rfl, hl⟩ := hv
    exact ⟨vs, rfl, VRelL.back hle _ _ _ hl0 hl⟩
  | .tuple cs, v0, v, h0, hv => by
    simp only [VRel] at h0 hv ⊢
    obtain ⟨vs0, rfl, hl0⟩ := h0
    obtain ⟨vs, rfl, hl⟩ := hv
    exact ⟨vs, rfl, VRelL.back hle _ _ _ hl0 hl⟩
  | .map id, v0, v, h0, hv => by
    simp only [VRel] at h0 hv ⊢
    obtain ⟨r0, hr0, _⟩ := h0
    obtain ⟨r, hr, rfl⟩ := hv
    rw [hle _ _ hr0, Option.some.injEq] at hr; subst hr
    exact ⟨r0, hr0, rfl⟩
  | .nilMap, _, v, _, hv => by simpa [VRel] using hv
theorem VRelL.back {ι ι' : Nat → Option Ref} (hle : Ref.le ι ι') : ∀ (a : List AV) (v0 v : List Value), VRelL ι a v0 → VRelL ι' a v → VRelL ι a v
  | [], _, v, _, hv => by simpa [VRelL] using hv
  | a :: l, v0, v, h0, hv => by
    simp only [VRelL] at h0 hv ⊢
    obtain ⟨x0, r0, rfl, hx0, hr0⟩ := h0
    obtain ⟨x, r, rfl, hx, hr⟩ := hv
    exact ⟨x, r, rfl, VRel.back hle _ _ _ hx0 hx, VRelL.back hle _ _ _ hr0 hr⟩
end

theorem MEs.back {ι ι' : Nat → Option Ref} (hle : Ref.le ι ι') : ∀ {es : List ME} {l0 l : List MapEntry}, MEs ι es l0 → MEs ι' es l → MEs ι es l
  | [], l0, l, h0, h => h
  | e :: es, l0, l, ⟨v0, r0, _, _, a3, a4, a5⟩, ⟨v, r, h1, h2, h3, h4, h5⟩ => ⟨v, r, h1, h2, VRel.back hle _ _ _ a3 h3, VRel.back hle _ _ _ a4 h4, MEs.back hle a5 h5⟩
theorem OBRel.back {ι ι' : Nat → Option Ref} (hle : Ref.le ι ι') {w w' : World} {o : OB} {r : Ref} (h0 : OBRel ι w o r) (h : OBRel ι' w' o r) : OBRel ι w' o r := by
  unfold OBRel at h0 h ⊢
  split at h0
  · rename_i hm
    rw [hm] at h
    exact ⟨h.1, h0.2⟩
  · rename_i m hm
    rw [hm] at h
    unfold MORel at h0 h ⊢
    split at h0
    · obtain ⟨vs0, _, a2⟩ := h0
      obtain ⟨vs, b1, b2⟩ := h
      exact ⟨vs, b1, a2.back hle b2⟩
    · obtain ⟨a0, q0, a1, _⟩ := h0
      obtain ⟨_, q, b1, b2⟩ := h
      rw [hle _ _ a1] at b1; injection b1 with b1; subst b1
      exact ⟨a0, q0, a1, b2⟩

/-- what is yielded has no address in it: the memory behind the call may be forgotten -/
theorem ACalls.trace {P : Program} {f : FuncId} {args : List AV} {H : Heap} {R : AV → Prop} (h : ACalls P f args H fun r H' => R r ∧ Le H H') (hp : ∀ r, R r → r.plain = true) : ACalls P f args H fun r H' => R r ∧ H' = H := by
  intro ι w us hH hus
  refine (h ι w us hH hus).mono ?_
  rintro e w' ⟨r, u, H', ι', rfl, ⟨hr, hl⟩, hv, hH', hE⟩
  refine ⟨r, u, H, ι, rfl, ⟨hr, rfl⟩, VRel.plain _ _ (hp r hr) hv, ?_, ?_⟩
  · have old : ∀ id b, H.get id = some b → H'.get id = some b := by
      intro id b hb
      obtain ⟨r0, hr0, _⟩ := hH.blk id b hb
      have hid : id < H.size := by
        rcases Nat.lt_or_ge id H.size with h1 | h1
        · exact h1
        · rw [hH.fresh id h1] at hr0; cases hr0
      rw [hl.get id hid]; exact hb
    have oo : ∀ id o r, H.ob id = some o → ι id = some r → H'.ob id = some o ∧ ι' id = some r := fun id o r h1 h2 => ⟨by rw [hl.ob]; exact h1, hE.le _ _ h2⟩
    refine ⟨hH.fresh, ?_, ?_, fun id o h1 => ?_, fun id o r id' o' r' h1 h2 h3 h4 => hH'.oapart id o r id' o' r' (oo id o r h1 h3).1 (oo id' o' r' h2 h4).1 (oo id o r h1 h3).2 (oo id' o' r' h2 h4).2, hH.gl⟩
    rotate_left 2
    · obtain ⟨r0, g1, g0⟩ := hH.obs id o h1
      obtain ⟨g2, g3⟩ := oo id o r0 h1 g1
      obtain ⟨r1, g4, g5⟩ := hH'.obs id o g2
      rw [g3] at g4; injection g4 with g4; subst g4
      exact ⟨r0, g1, OBRel.back hE.le g0 g5⟩
    · intro id b hb
      obtain ⟨r0, hr0, hb0⟩ := hH.blk id b hb
      obtain ⟨r1, hr1, hb1⟩ := hH'.blk id b (old id b hb)
      rw [hE.le _ _ hr0, Option.some.injEq] at hr1; subst hr1
      refine ⟨r0, hr0, ?_⟩
      unfold BlkRel at hb0 hb1 ⊢
      split at hb1
      · rename_i hw
        rw [hw] at hb0
        obtain ⟨c0, e0, _, _, _, g4⟩ := hb0
        obtain ⟨c, e, k1, k2, k3, k4⟩ := hb1
        exact ⟨c, e, k1, k2, k3, VRelL.back hE.le _ _ _ g4 k4⟩
      · rename_i hw
        rw [hw] at hb0
        intro i a ha
        obtain ⟨v0, _, g⟩ := hb0 i a ha
        obtain ⟨v, k1, k2⟩ := hb1 i a ha
        exact ⟨v, k1, VRel.back hE.le _ _ _ g k2⟩
    · intro id b r1 id' b' r2 hb hb' hw hw' hr1 hr2 hrow
      exact hH'.apart id b r1 id' b' r2 (old id b hb) (old id' b' hb') hw hw' (hE.le _ _ hr1) (hE.le _ _ hr2) hrow
  · exact ⟨Ref.le_refl ι, Nat.le_refl _, hE.wsize, hE.os, hE.tape, hE.output, hE.rows, fun id b r h1 h2 h3 => .inr ⟨id, b, r, h1, h2, h3, rfl⟩, fun id o r h1 h2 => .inr ⟨id, o, r, h1, h2, rfl⟩⟩

theorem ACalls.val {P : Program} {f : FuncId} {args : List AV} {H : Heap} {v : AV} (h : ACalls P f args H fun r H' => r = v ∧ Le H H') (hp : v.plain = true) : ACalls P f args H fun r H' => r = v ∧ H' = H :=
  h.trace (R := fun r => r = v) (fun r hr => by rw [hr]; exact hp)

section
variable {P : Program} {A : Heap} {X : List Nat} {E F : List (Nat × AV)} {S S' S0 : Sig} {Q : Exit → St → Prop} {K : St → Prop} {r : List MI} {d : Nat} {v w : AV}
theorem go_callp {f : FuncId} {args : List MX} {vs : List AV} (ha : evsE E args = some vs := by exact rfl) (hc : Callable P f) (h : ∀ H, SOk A X S H.size H → ACalls P f vs H fun r H' => r = v ∧ H' = H) (hk : GO P A X ((d, v) :: E) S r K) : GO P A X E S (⟨some d, none, .call f args⟩ :: r) K :=
  go_call ha hc (fun H hH => (h H hH).mono fun r H' hr => ⟨hr.1, by rw [hr.2]; exact Le.refl _⟩) hk
end
end Go.Rx
