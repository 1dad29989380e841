/-
  RxX: calls that write into what they are given; parts of slices and calls in regions that draw.
-/
import Derived.Test.YtophpmdlgphihapRxW
namespace Go.Rx
set_option linter.unusedVariables false
set_option linter.unusedSimpArgs false

section
variable {P : Program} {A : Heap} {X : List Nat} {E F : List (Nat × AV)} {S S' S0 : Sig} {Q : Exit → St → Prop} {K : St → Prop} {r : List MI} {d : Nat} {v w : AV} {x y p : MX} {k : IntKind} {a b : Int}

theorem stp_pickt {c : MX} {t : Bool} (hc : evE E c = some (.bool t) := by exact rfl) (ht : t = true := by with_reducible rfl) (hx : evE E x = some v := by exact rfl) : Stp A X E S (.pick c x y) (Is v S) :=
  stp_pure fun τ H m nid hE hS => by subst ht; simp only [mstep, ev_of hE hc, ev_of hE hx, if_true]
theorem stp_pickf {c : MX} {t : Bool} (hc : evE E c = some (.bool t) := by exact rfl) (ht : t = false := by with_reducible rfl) (hy : evE E y = some v := by exact rfl) : Stp A X E S (.pick c x y) (Is v S) :=
  stp_pure fun τ H m nid hE hS => by subst ht; simp only [mstep, ev_of hE hc, ev_of hE hy, Bool.false_eq_true, if_false]
/-- arithmetic that may wrap -/
theorem stp_addw (hx : evE E x = some (.int .i64 a) := by exact rfl) (hy : evE E y = some (.int .i64 b) := by exact rfl) : Stp A X E S (.bin .add x y) (Is (.int .i64 (IntKind.wrap .i64 (a + b))) S) :=
  stp_bin hx hy (by simp only [mbin, shifts, Bool.false_eq_true, if_false, if_true])
theorem stp_subw (hx : evE E x = some (.int .i64 a) := by exact rfl) (hy : evE E y = some (.int .i64 b) := by exact rfl) : Stp A X E S (.bin .sub x y) (Is (.int .i64 (IntKind.wrap .i64 (a - b))) S) :=
  stp_bin hx hy (by simp only [mbin, shifts, Bool.false_eq_true, if_false, if_true])
theorem stp_mulw (hx : evE E x = some (.int .i64 a) := by exact rfl) (hy : evE E y = some (.int .i64 b) := by exact rfl) : Stp A X E S (.bin .mul x y) (Is (.int .i64 (IntKind.wrap .i64 (a * b))) S) :=
  stp_bin hx hy (by simp only [mbin, shifts, Bool.false_eq_true, if_false, if_true])

theorem stp_beqd {p q : Prop} [Decidable p] [Decidable q] (hx : evE E x = some (.bool (decide p)) := by exact rfl) (hy : evE E y = some (.bool (decide q)) := by exact rfl) : Stp A X E S (.beq false x y) (Is (.bool (decide (p ↔ q))) S) :=
  stp_pure fun τ H m nid hE hS => by
    simp only [mstep, ev_of hE hx, ev_of hE hy, Bool.false_eq_true, if_false]
    congr 3
    by_cases hp : p <;> by_cases hq : q <;> simp [hp, hq]
theorem stp_bned {p q : Prop} [Decidable p] [Decidable q] (hx : evE E x = some (.bool (decide p)) := by exact rfl) (hy : evE E y = some (.bool (decide q)) := by exact rfl) : Stp A X E S (.beq true x y) (Is (.bool (decide (¬ (p ↔ q)))) S) :=
  stp_pure fun τ H m nid hE hS => by
    simp only [mstep, ev_of hE hx, ev_of hE hy, if_true]
    congr 3
    by_cases hp : p <;> by_cases hq : q <;> simp [hp, hq]

/-- a new slice in a region that draws quietly -/
theorem gq_new {H0 : Heap} {Qt : FuncId → List AV → Option AV} {op : MOp} {N : AV → Sig} (hq : (!op.isCall && !writes op) = true) (hs : Stp A X E S op (New N)) (hk : ∀ v, GQ P Qt H0 A X ((d, v) :: E) (N v) r K) : GQ P Qt H0 A X E S (⟨some d, none, op⟩ :: r) K := by
  obtain ⟨hp, hwr⟩ : op.isCall = false ∧ writes op = false := by simpa using hq
  refine ⟨fun s hf h0 => ?_⟩
  obtain ⟨v', S'', H', rfl, h2, h3⟩ := hf.step hs
  have hd := dstep_plain (P := P) (Qt := Qt) (d := some d) (s := s) hp
  rw [h2] at hd
  have e := dstep_quiet hwr hd
  simp only [qops, hd]
  exact (hk v').g _ ⟨look_cons hf.env d _, h3⟩ (by rw [← h0]; exact e)

/-- parts of a list that is read only -/
theorem stp_slI {n l h : Nat} {xs : List Int} {lo hi : Option MX} (hx : evE E x = some v) (hs : Sel S ⟨.ro, v, 1, n, ints xs⟩ S0)
    (hlo : lo = none ∧ l = 0 ∨ ∃ z, lo = some z ∧ evE E z = some (.int .i64 (l : Int))) (hhi : hi = none ∧ h = n ∨ ∃ z, hi = some z ∧ evE E z = some (.int .i64 (h : Int))) (hb : l ≤ h ∧ h ≤ n) :
    Stp A X E S (.sl x lo hi none 1) (New fun u => ⟨.ro, u, 1, h - l, ints ((xs.drop l).take (h - l))⟩ :: ⟨.ro, v, 1, n, ints xs⟩ :: S0) := by
  have := stp_sl (A := A) (X := X) (E := E) (S := S) (S0 := S0) hx hs hlo hhi hb
  simp only [Nat.mul_one] at this
  simp only [Rx.ints, List.map_take, List.map_drop] at this ⊢
  exact this
theorem stp_from {n l : Nat} {xs : List Int} {z : MX} (hx : evE E x = some v := by exact rfl) (hs : Sel S ⟨.ro, v, 1, n, ints xs⟩ S0 := by first | exact Sel.head | exact Sel.tail Sel.head | exact Sel.tail (Sel.tail Sel.head) | exact Sel.tail (Sel.tail (Sel.tail Sel.head)) | exact Sel.tail (Sel.tail (Sel.tail (Sel.tail Sel.head))) | exact Sel.tail (Sel.tail (Sel.tail (Sel.tail (Sel.tail Sel.head)))) | exact Sel.tail (Sel.tail (Sel.tail (Sel.tail (Sel.tail (Sel.tail Sel.head))))) | exact Sel.tail (Sel.tail (Sel.tail (Sel.tail (Sel.tail (Sel.tail (Sel.tail Sel.head)))))) | exact Sel.tail (Sel.tail (Sel.tail (Sel.tail (Sel.tail (Sel.tail (Sel.tail (Sel.tail Sel.head))))))) | exact Sel.tail (Sel.tail (Sel.tail (Sel.tail (Sel.tail (Sel.tail (Sel.tail (Sel.tail (Sel.tail Sel.head)))))))))
    (hz : evE E z = some (.int .i64 (l : Int)) := by exact rfl) (hb : l ≤ n := by omega) (hxs : n = xs.length := by (first | exact rfl | omega)) :
    Stp A X E S (.sl x (some z) none none 1) (New fun u => ⟨.ro, u, 1, n - l, ints (xs.drop l)⟩ :: ⟨.ro, v, 1, n, ints xs⟩ :: S0) := by
  have := stp_slI (A := A) (X := X) (E := E) (S := S) (S0 := S0) (lo := some z) (hi := none) (l := l) (h := n) hx hs (.inr ⟨z, rfl, hz⟩) (.inl ⟨rfl, rfl⟩) ⟨hb, Nat.le_refl _⟩
  rw [List.take_of_length_le (by simp; omega)] at this
  exact this
theorem stp_from1 {n : Nat} {xs : List Int} (hx : evE E x = some v := by exact rfl) (hs : Sel S ⟨.ro, v, 1, n, ints xs⟩ S0 := by first | exact Sel.head | exact Sel.tail Sel.head | exact Sel.tail (Sel.tail Sel.head) | exact Sel.tail (Sel.tail (Sel.tail Sel.head)) | exact Sel.tail (Sel.tail (Sel.tail (Sel.tail Sel.head))) | exact Sel.tail (Sel.tail (Sel.tail (Sel.tail (Sel.tail Sel.head)))) | exact Sel.tail (Sel.tail (Sel.tail (Sel.tail (Sel.tail (Sel.tail Sel.head))))) | exact Sel.tail (Sel.tail (Sel.tail (Sel.tail (Sel.tail (Sel.tail (Sel.tail Sel.head)))))) | exact Sel.tail (Sel.tail (Sel.tail (Sel.tail (Sel.tail (Sel.tail (Sel.tail (Sel.tail Sel.head))))))) | exact Sel.tail (Sel.tail (Sel.tail (Sel.tail (Sel.tail (Sel.tail (Sel.tail (Sel.tail (Sel.tail Sel.head)))))))))
    (hb : 1 ≤ n := by omega) (hxs : n = xs.length := by (first | exact rfl | omega)) :
    Stp A X E S (.sl x (some (.c (.int .i64 1))) none none 1) (New fun u => ⟨.ro, u, 1, n - 1, ints (xs.drop 1)⟩ :: ⟨.ro, v, 1, n, ints xs⟩ :: S0) :=
  stp_from (l := 1) hx hs rfl hb hxs
theorem stp_upto {n h : Nat} {xs : List Int} {z : MX} (hx : evE E x = some v := by exact rfl) (hs : Sel S ⟨.ro, v, 1, n, ints xs⟩ S0 := by first | exact Sel.head | exact Sel.tail Sel.head | exact Sel.tail (Sel.tail Sel.head) | exact Sel.tail (Sel.tail (Sel.tail Sel.head)) | exact Sel.tail (Sel.tail (Sel.tail (Sel.tail Sel.head))) | exact Sel.tail (Sel.tail (Sel.tail (Sel.tail (Sel.tail Sel.head)))) | exact Sel.tail (Sel.tail (Sel.tail (Sel.tail (Sel.tail (Sel.tail Sel.head))))) | exact Sel.tail (Sel.tail (Sel.tail (Sel.tail (Sel.tail (Sel.tail (Sel.tail Sel.head)))))) | exact Sel.tail (Sel.tail (Sel.tail (Sel.tail (Sel.tail (Sel.tail (Sel.tail (Sel.tail Sel.head))))))) | exact Sel.tail (Sel.tail (Sel.tail (Sel.tail (Sel.tail (Sel.tail (Sel.tail (Sel.tail (Sel.tail Sel.head)))))))))
    (hz : evE E z = some (.int .i64 (h : Int)) := by exact rfl) (hb : h ≤ n := by omega) :
    Stp A X E S (.sl x none (some z) none 1) (New fun u => ⟨.ro, u, 1, h, ints (xs.take h)⟩ :: ⟨.ro, v, 1, n, ints xs⟩ :: S0) := by
  have := stp_slI (A := A) (X := X) (E := E) (S := S) (S0 := S0) (lo := none) (hi := some z) (l := 0) (h := h) hx hs (.inl ⟨rfl, rfl⟩) (.inr ⟨z, rfl, hz⟩) ⟨Nat.zero_le _, hb⟩
  simpa only [Nat.sub_zero, List.drop_zero] using this

/-- a call that changes blocks -/
theorem go_callw {f : FuncId} {args : List MX} {vs : List AV} (ha : evsE E args = some vs := by exact rfl) (hc : Callable P f) (h : ∀ H, SOk A X S H.size H → ACalls P f vs H fun r H' => r = v ∧ SOk A X S' H'.size H') (hk : GO P A X ((d, v) :: E) S' r K) : GO P A X E S (⟨some d, none, .call f args⟩ :: r) K := by
  refine ⟨fun s hf => ?_⟩
  rw [mops_cons]
  have := h s.H hf.ok
  rw [← evs_of hf.env ha] at this
  refine ⟨hc, _, this, ?_⟩
  rintro v' H' ⟨rfl, ho⟩
  exact hk.g _ ⟨look_cons hf.env d _, ho⟩

/-- the start of a function that writes into one block that it is given -/
theorem HasCode.gow {f : FuncId} {mc : MC} {rs : List RV} {N : Nat} (h : HasCode P f mc rs N) {args : List AV} {H : Heap} {c c' : Ch} (hS : SOk A X S H.size H) (hs : Sel S c S0) (hw : c.k.wr = true) (hv : c'.v = c.v) (hkd : c'.k = c.k) (hn : args.length ≤ N)
    (hb : ∀ X', GC P H X' (argsE 0 args) [c] mc (retK rs fun r H' => r = v ∧ SOk H X' [c'] H'.size H')) : ACalls P f args H fun r H' => r = v ∧ SOk A X (c' :: S0) H'.size H' := by
  have hS' := hS.sel hs
  have hc := hS'.ch c (by simp)
  have hfit : Fit H c.v.bid.toList (argsE 0 args) [c] ⟨init args, H⟩ := by
    refine ⟨fun i v hv => ?_, LeX.refl _ _, Nat.le_refl _, Nat.le_refl _, ?_, by simp⟩
    · have := (argsE_init args 0 i v hv).2
      simpa using this
    · intro d hd
      simp only [List.mem_singleton] at hd; subst hd
      refine ⟨hc.1, ?_⟩
      have h2 := hc.2
      have hown := fun k hk => hc.own hw (k := k) hk
      cases hk : d.k with
      | ro => rw [hk] at hw; cases hw
      | rw =>
        rw [hk] at h2
        simp only at h2 ⊢
        refine ⟨h2.1, h2.2.imp id ?_⟩
        rintro ⟨id, h3, h4, h5⟩
        exact ⟨id, h3, .inr (by rw [h3]; simp [AV.bid]), h5⟩
      | cell =>
        rw [hk] at h2
        simp only at h2 ⊢
        obtain ⟨id, h3, h4, h5⟩ := h2
        exact ⟨id, h3, .inr (by rw [h3]; simp [AV.bid]), h5⟩
  refine (h.calls hn ((hb c.v.bid.toList).g _ hfit)).mono ?_
  rintro r H' ⟨rfl, h1⟩
  refine ⟨rfl, hS'.mod hw ?_ h1.le.size (Nat.le_refl _) ?_ (.inl (by rw [hv])) h1.le.ob⟩
  · intro id hid hne
    refine h1.le.get id hid ?_
    cases hcb : c.v.bid with
    | none => simp
    | some j => rw [hcb] at hne; simp only [Option.toList_some, List.mem_singleton]; intro e; subst e; exact hne rfl
  · have hc' := h1.ch c' (by simp)
    refine ⟨hc'.1, ?_⟩
    have h2 := hc'.2
    have hown := fun k hk => hc.own hw (k := k) hk
    rw [← hv] at hown
    have hkd' := hkd
    cases hk : c'.k with
    | ro => rw [hkd] at hk; rw [hk] at hw; cases hw
    | rw =>
      rw [hk] at h2
      simp only at h2 ⊢
      refine ⟨h2.1, h2.2.imp id ?_⟩
      rintro ⟨id, h3, h4, h5⟩
      exact ⟨id, h3, hown id (by rw [h3]; rfl), h5⟩
    | cell =>
      rw [hk] at h2
      simp only at h2 ⊢
      obtain ⟨id, h3, h4, h5⟩ := h2
      exact ⟨id, h3, hown id (by rw [h3]; rfl), h5⟩

theorem SOk.toSub {H : Heap} (h : SOk A X S H.size H) (hs : Sub S S' := by (repeat (refine Sub.cons (by first | exact Sel.head | exact Sel.tail Sel.head | exact Sel.tail (Sel.tail Sel.head) | exact Sel.tail (Sel.tail (Sel.tail Sel.head)) | exact Sel.tail (Sel.tail (Sel.tail (Sel.tail Sel.head))) | exact Sel.tail (Sel.tail (Sel.tail (Sel.tail (Sel.tail Sel.head)))) | exact Sel.tail (Sel.tail (Sel.tail (Sel.tail (Sel.tail (Sel.tail Sel.head))))) | exact Sel.tail (Sel.tail (Sel.tail (Sel.tail (Sel.tail (Sel.tail (Sel.tail Sel.head)))))) | exact Sel.tail (Sel.tail (Sel.tail (Sel.tail (Sel.tail (Sel.tail (Sel.tail (Sel.tail Sel.head))))))) | exact Sel.tail (Sel.tail (Sel.tail (Sel.tail (Sel.tail (Sel.tail (Sel.tail (Sel.tail (Sel.tail Sel.head))))))))) ?_)); exact Sub.nil) : SOk A X S' H.size H := h.sub hs
end

/-- the list that a slice holds -/
noncomputable def intsAt (H : Heap) (a : AV) : Option (List Int) := by
  classical exact if h : ∃ xs, Ints H a xs then some h.choose else none
theorem Ints.uniq {H : Heap} {a : AV} {xs ys : List Int} (h : Ints H a xs) (k : Ints H a ys) : xs = ys := by
  have h1 := h.row
  have h2 := k.row
  rw [h1] at h2
  simp only [Option.some.injEq, Rx.ints] at h2
  have : (xs.map (AV.int .i64)).map (fun a => match a with | .int _ n => n | _ => 0) = (ys.map (AV.int .i64)).map (fun a => match a with | .int _ n => n | _ => 0) := by rw [h2]
  simpa [List.map_map, Function.comp_def] using this
theorem intsAt_of {H : Heap} {a : AV} {xs : List Int} (h : Ints H a xs) : intsAt H a = some xs := by
  unfold intsAt
  have hex : ∃ xs, Ints H a xs := ⟨xs, h⟩
  rw [dif_pos hex]
  rw [hex.choose_spec.uniq h]
theorem intsAt_some {H : Heap} {a : AV} {xs : List Int} (h : intsAt H a = some xs) : Ints H a xs := by
  unfold intsAt at h
  split at h
  · rename_i hex
    simp only [Option.some.injEq] at h
    rw [← h]; exact hex.choose_spec
  · cases h

end Go.Rx
