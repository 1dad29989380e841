/-
  Rx1: the orders that a region may draw, up to operations that don't look at the memory.
-/
import Derived.Test.YtophpmdlgphihapRxL
namespace Go.Rx
set_option linter.unusedVariables false
set_option linter.unusedSimpArgs false

def slotOk (mi mj : MI) : Bool :=
  (match mi.dst with | some d => !(mj.slots.contains d) && !(mj.dst == some d) | none => true) &&
  (match mj.dst with | some d => !(mi.slots.contains d) | none => true)

/-- operations that don't look at the memory -/
def pureOp : MOp → Bool
  | .ld .. | .st .. | .cpy .. | .sla .. | .mks .. | .bsl .. | .box .. | .new .. | .app .. | .app0 .. | .call .. | .callv .. | .inv .. | .mq _ => false
  | _ => true

theorem pure_call {m : MOp} (h : pureOp m = true) : m.isCall = false := by
  cases m <;> simp [pureOp] at h <;> rfl

theorem pure_any {m : MOp} (h : pureOp m = true) {nid nid' : Nat} {τ : Nat → AV} {H H2 H' : Heap} {v : AV} (hs : mstep nid τ H m = some (v, H')) : H' = H ∧ mstep nid' τ H2 m = some (v, H2) := by
  cases m <;> simp only [pureOp, Bool.false_eq_true] at h <;> simp only [mstep] at hs ⊢
  all_goals first
    | exact map_pair hs
    | (obtain ⟨h1, h2⟩ := some_pair hs; subst h1; exact ⟨h2, rfl⟩)
    | (repeat' (split at hs)) <;> first
      | exact (Option.some_ne_none _ hs.symm).elim
      | cases hs; simp_all; done
      | exact map_pair hs
      | (simp_all; done)
      | (simp_all; rcases hs with ⟨h1, h2, h3⟩ | ⟨h1, h2, h3⟩ <;> simp_all; done)
      | (simp_all; obtain ⟨c, h1, h2, h3⟩ := hs; subst h2; exact ⟨h3.symm, h1⟩)
      | (simp_all; obtain ⟨c, h1, h2, h3⟩ := hs; exact ⟨h3.symm, c, h1, h2⟩)

theorem put_frame {s : St} {H : Heap} {τ : Nat → AV} {d : Option Nat} {v : AV} {l : List Nat} (h : ∀ t ∈ l, s.τ t = τ t) (hd : ∀ x, d = some x → x ∉ l) : ∀ t ∈ l, (St.put ⟨s.τ, H⟩ d v).τ t = τ t := by
  intro t ht
  cases d with
  | none => exact h t ht
  | some x =>
    have : t ≠ x := fun e => hd x rfl (e ▸ ht)
    simp only [St.put, upd, if_neg this]; exact h t ht

theorem put_swap {s : St} {H1 H2 : Heap} {d e : Option Nat} {v w : AV} (h : ∀ x, d = some x → e ≠ some x) : St.put ⟨(St.put ⟨s.τ, H1⟩ d v).τ, H2⟩ e w = St.put ⟨(St.put ⟨s.τ, H2⟩ e w).τ, H2⟩ d v := by
  cases d with
  | none => cases e <;> rfl
  | some x =>
    cases e with
    | none => rfl
    | some y =>
      have hne : y ≠ x := fun e => h x rfl (by rw [e])
      simp only [St.put, St.mk.injEq, and_true]
      funext t
      simp only [upd]
      by_cases h1 : t = y
      · subst h1; rw [if_pos rfl, if_neg hne, if_pos rfl]
      · rw [if_neg h1]
        by_cases h2 : t = x
        · rw [if_pos h2, if_pos h2]
        · rw [if_neg h2, if_neg h2, if_neg h1]

theorem mmq_frame {s1 s2 : St} {q : MQ} {k1 k2 : AV → Heap → Prop} (hH : s2.H = s1.H) (hτ : ∀ t ∈ q.slots, s2.τ t = s1.τ t) (hk : ∀ v H', k1 v H' → k2 v H') (h : mmq s1 q k1) : mmq s2 q k2 := by
  have hk' : k1 = k1 := rfl
  cases q with
  | mk => simp only [mmq, hH] at h ⊢; exact fun a b => hk _ _ (h a b)
  | lk x i ok st z =>
    have e1 := ev_congr (x := x) fun t ht => hτ t (by simp [MQ.slots, ht])
    have e2 := ev_congr (x := i) fun t ht => hτ t (by simp [MQ.slots, ht])
    simp only [mmq, hH, e1, e2] at h ⊢
    split at h
    · split at h
      · exact hk _ _ h
      · exact hk _ _ h
      · exact h
    · exact h
  | up x i v st =>
    have e1 := ev_congr (x := x) fun t ht => hτ t (by simp [MQ.slots, ht])
    have e2 := ev_congr (x := i) fun t ht => hτ t (by simp [MQ.slots, ht])
    have e3 := ev_congr (x := v) fun t ht => hτ t (by simp [MQ.slots, ht])
    simp only [mmq, hH, e1, e2, e3] at h ⊢
    split at h
    · split at h
      · exact hk _ _ h
      · exact hk _ _ h
      · exact h
    · exact h
  | dl x i st =>
    have e1 := ev_congr (x := x) fun t ht => hτ t (by simp [MQ.slots, ht])
    have e2 := ev_congr (x := i) fun t ht => hτ t (by simp [MQ.slots, ht])
    simp only [mmq, hH, e1, e2] at h ⊢
    split at h
    · split at h
      · exact hk _ _ h
      · exact hk _ _ h
      · exact h
    · exact h
  | rg x =>
    have e1 := ev_congr (x := x) fun t ht => hτ t (by simp [MQ.slots, ht])
    simp only [mmq, hH, e1] at h ⊢
    split at h
    · exact fun a b => hk _ _ (h a b)
    · exact h
  | nx x =>
    have e1 := ev_congr (x := x) fun t ht => hτ t (by simp [MQ.slots, ht])
    simp only [mmq, hH, e1] at h ⊢
    split at h
    · split at h
      · exact ⟨h.1, h.2.1, fun a => hk _ _ (h.2.2.1 a), fun e he hn => hk _ _ (h.2.2.2 e he hn)⟩
      · exact h
    · exact h
  | en x =>
    have e1 := ev_congr (x := x) fun t ht => hτ t (by simp [MQ.slots, ht])
    simp only [mmq, hH, e1] at h ⊢
    split at h
    · split at h
      · split at h
        · refine ⟨h.1, ?_⟩
          have h2 := h.2
          split at h2
          · exact hk _ _ h2
          · exact h2
        · exact h
      · exact h
    · exact h

/-- what an operation does depends on what it names -/
theorem mone_frame {P : Program} {m : MI} {s1 s2 : St} {M1 M2 : St → (St → Prop) → Prop} {K : St → Prop} (hH : s2.H = s1.H) (hτ : ∀ t ∈ m.slots, s2.τ t = s1.τ t)
    (hM : ∀ v H', M1 (St.put ⟨s1.τ, H'⟩ m.dst v) K → M2 (St.put ⟨s2.τ, H'⟩ m.dst v) K) (h : mone P m s1 M1 K) : mone P m s2 M2 K := by
  have hτ' : ∀ t ∈ m.op.slots, s2.τ t = s1.τ t := fun t ht => hτ t (by simp [MI.slots, ht])
  have hc : ∀ f args, mcall P f args m.dst s1 M1 K → mcall P f args m.dst s2 M2 K := by
    rintro f args ⟨h1, R, h2, h3⟩
    exact ⟨h1, R, by rw [hH]; exact h2, fun r H' hr => hM r H' (h3 r H' hr)⟩
  have he : mexec P m.op m.dst s1 M1 K → mexec P m.op m.dst s2 M2 K := by
    intro h
    cases hm : m.op.isCall with
    | false =>
      obtain ⟨v, H', g1, g2⟩ := mexec_step hm h
      have g3 : mstep s2.H.size s2.τ s2.H m.op = some (v, H') := by
        rw [(slots_congr hτ' s2.H.size s2.H).1, hH]; exact g1
      have key : ∀ op, op.isCall = false → mstep s2.H.size s2.τ s2.H op = some (v, H') → mexec P op m.dst s2 M2 K := by
        intro op ho hs
        cases op <;> simp only [MOp.isCall, Bool.true_eq_false] at ho <;> simp only [mexec, hs] <;> exact hM v H' g2
      exact key m.op hm g3
    | true =>
      have key : ∀ op : MOp, op.isCall = true → (∀ t ∈ op.slots, s2.τ t = s1.τ t) → mexec P op m.dst s1 M1 K → mexec P op m.dst s2 M2 K := by
        intro op ho hτ' h
        cases op <;> simp only [MOp.isCall, Bool.false_eq_true] at ho
        · rename_i f args
          simp only [mexec] at h ⊢
          have e : args.map (·.ev s2.τ) = args.map (·.ev s1.τ) := evs_congr (fun t ht => hτ' t (by simpa [MOp.slots] using ht))
          rw [e]; exact hc _ _ h
        · rename_i fv args
          simp only [mexec] at h ⊢
          have e : args.map (·.ev s2.τ) = args.map (·.ev s1.τ) := evs_congr (fun t ht => hτ' t (by simp only [MOp.slots, List.mem_append]; exact .inr ht))
          have e2 : fv.ev s2.τ = fv.ev s1.τ := ev_congr (fun t ht => hτ' t (by simp only [MOp.slots, List.mem_append]; exact .inl ht))
          rw [e, e2]
          split at h
          · exact hc _ _ h
          · exact hc _ _ h
          · split at h
            · exact hc _ _ h
            · exact h
          · obtain ⟨R, h2, h3⟩ := h
            exact ⟨R, by rw [hH]; exact h2, fun b H' hr => hM _ H' (h3 b H' hr)⟩
          · exact h
        · rename_i tab x args
          simp only [mexec] at h ⊢
          have e : args.map (·.ev s2.τ) = args.map (·.ev s1.τ) := evs_congr (fun t ht => hτ' t (by simp only [MOp.slots, List.mem_append]; exact .inr ht))
          have e2 : x.ev s2.τ = x.ev s1.τ := ev_congr (fun t ht => hτ' t (by simp only [MOp.slots, List.mem_append]; exact .inl ht))
          rw [e, e2]
          split at h
          · split at h
            · exact hc _ _ h
            · exact h
          · exact h
        · rename_i q
          simp only [mexec] at h ⊢
          exact mmq_frame hH hτ' (fun v H' g => hM v H' g) h
      exact key m.op hm hτ' h
  unfold mone at h ⊢
  have hs2 : ∀ v, M1 (s1.put m.dst v) K → M2 (s2.put m.dst v) K := by
    intro v g
    have := hM v s1.H g
    rw [← hH] at this
    exact this
  cases hg : m.guard with
  | none => rw [hg] at h; exact he h
  | some q =>
    obtain ⟨t, want⟩ := q
    have e : s2.τ t = s1.τ t := hτ t (by simp [MI.slots, hg, gslots])
    rw [hg] at h
    simp only at h ⊢
    rw [e]
    split at h
    · split at h
      · rename_i hb; rw [if_pos hb]; exact he h
      · rename_i hb; rw [if_neg hb]; exact hs2 _ h
    · exact hs2 _ h
    · exact h

theorem mops_mono {P : Program} {m : MI} {s : St} {M1 M2 : St → (St → Prop) → Prop} {K : St → Prop} (hM : ∀ t, M1 t K → M2 t K) (h : mone P m s M1 K) : mone P m s M2 K :=
  mone_frame rfl (fun _ _ => rfl) (fun v H' g => hM _ g) h

/-- a pure operation, wherever what it names is the same -/
theorem mone_pure {P : Program} {m : MI} (hp : pureOp m.op = true) {s : St} {M : St → (St → Prop) → Prop} {K : St → Prop} (h : mone P m s M K) :
    ∃ v, M (St.put ⟨s.τ, s.H⟩ m.dst v) K ∧ ∀ (s' : St), (∀ t ∈ m.slots, s'.τ t = s.τ t) → ∀ (M' : St → (St → Prop) → Prop), M' (St.put ⟨s'.τ, s'.H⟩ m.dst v) K → mone P m s' M' K := by
  have hc := pure_call hp
  have he : mexec P m.op m.dst s M K → ∃ v, M (St.put ⟨s.τ, s.H⟩ m.dst v) K ∧ ∀ (s' : St), (∀ t ∈ m.slots, s'.τ t = s.τ t) → ∀ (M' : St → (St → Prop) → Prop), M' (St.put ⟨s'.τ, s'.H⟩ m.dst v) K → mexec P m.op m.dst s' M' K := by
    intro h
    obtain ⟨v, H', g1, g2⟩ := mexec_step hc h
    obtain ⟨rfl, _⟩ := pure_any (nid' := 0) (H2 := s.H) hp g1
    refine ⟨v, g2, fun s' hτ M' h' => ?_⟩
    have g3 : mstep s'.H.size s'.τ s'.H m.op = some (v, s'.H) := by
      rw [(slots_congr (fun t ht => hτ t (by simp [MI.slots, ht])) s'.H.size s'.H).1]
      exact (pure_any hp g1).2
    have key : ∀ op, op.isCall = false → mstep s'.H.size s'.τ s'.H op = some (v, s'.H) → mexec P op m.dst s' M' K := by
      intro op ho hs
      cases op <;> simp only [MOp.isCall, Bool.true_eq_false] at ho <;> simp only [mexec, hs] <;> exact h'
    exact key m.op hc g3
  unfold mone at h
  cases hg : m.guard with
  | none =>
    rw [hg] at h
    obtain ⟨v, h1, h2⟩ := he h
    exact ⟨v, h1, fun s' hτ M' h' => by unfold mone; rw [hg]; exact h2 s' hτ M' h'⟩
  | some q =>
    obtain ⟨t, want⟩ := q
    rw [hg] at h
    simp only at h
    have ht : t ∈ m.slots := by simp [MI.slots, hg, gslots]
    split at h
    · rename_i b hb
      split at h
      · rename_i hw
        obtain ⟨v, h1, h2⟩ := he h
        refine ⟨v, h1, fun s' hτ M' h' => ?_⟩
        unfold mone; rw [hg]; simp only
        rw [hτ t ht, hb]; simp only
        rw [if_pos hw]; exact h2 s' hτ M' h'
      · rename_i hw
        refine ⟨_, h, fun s' hτ M' h' => ?_⟩
        unfold mone; rw [hg]; simp only
        rw [hτ t ht, hb]; simp only
        rw [if_neg hw]; exact h'
    · rename_i hb
      refine ⟨_, h, fun s' hτ M' h' => ?_⟩
      unfold mone; rw [hg]; simp only
      rw [hτ t ht, hb]; exact h'
    · exact h.elim

structure Loose (x y : MI) : Prop where
  d1 : ∀ d, x.dst = some d → d ∉ y.slots ∧ y.dst ≠ some d
  d2 : ∀ d, y.dst = some d → d ∉ x.slots

theorem Loose.of {mi mj : MI} (h : slotOk mi mj = true) : Loose mi mj := by
  unfold slotOk at h
  rw [Bool.and_eq_true] at h
  constructor
  · intro d hd
    have := h.1
    rw [hd] at this
    simpa using this
  · intro d hd
    have := h.2
    rw [hd] at this
    simpa using this
theorem Loose.symm {x y : MI} (h : Loose x y) : Loose y x :=
  ⟨fun d hd => ⟨h.d2 d hd, fun hx => (h.d1 d hx).2 hd⟩, fun d hd => (h.d1 d hd).1⟩

theorem swap_ops {P : Program} {x y : MI} {r : List MI} {s : St} {K : St → Prop} (hx : pureOp x.op = true) (hl : Loose x y) (h : mops P (x :: y :: r) s K) : mops P (y :: x :: r) s K := by
  simp only [mops] at h ⊢
  obtain ⟨v, h1, h2⟩ := mone_pure hx h
  refine mone_frame (s1 := St.put ⟨s.τ, s.H⟩ x.dst v) (by rw [put_H]) (fun t ht => ?_) (fun w H' g => ?_) h1
  · exact (put_frame (s := s) (l := y.slots) (fun _ _ => rfl) (fun d hd => (hl.d1 d hd).1) t ht).symm
  · refine h2 _ (fun t ht => ?_) _ ?_
    · exact put_frame (s := s) (fun _ _ => rfl) (fun d hd => hl.d2 d hd) t ht
    · rw [put_H, ← put_swap (s := s) (H1 := s.H) (fun d hd => (hl.d1 d hd).2)]
      exact g

theorem move_ops {P : Program} {x : MI} {K : St → Prop} (hx : pureOp x.op = true) : ∀ (a b : List MI) (s : St), (∀ y ∈ a, Loose x y) → mops P (x :: (a ++ b)) s K → mops P (a ++ x :: b) s K
  | [], b, s, _, h => h
  | y :: a, b, s, hl, h => by
    have h1 := swap_ops hx (hl y (by simp)) h
    simp only [mops, List.cons_append] at h1 ⊢
    exact mops_mono (fun t g => move_ops hx a b t (fun z hz => hl z (by simp [hz])) g) h1

def pickM (L : List MI) (l : List Nat) : List MI := l.filterMap fun i => L[i]?

/-- the orders, one of those that differ in pure operations -/
def lin (M : List Nat) (pu : Nat → Bool) (n : Nat) : Nat → List Nat → List (List Nat)
  | 0, _ => [[]]
  | fuel + 1, done =>
    match ((List.range n).filter fun i => !done.contains i && (List.range n).all fun k => !(M.getD i 0).testBit k || done.contains k).find? pu with
    | some i => (lin M pu n fuel (i :: done)).map (i :: ·)
    | none => ((List.range n).filter fun i => !done.contains i && (List.range n).all fun k => !(M.getD i 0).testBit k || done.contains k).flatMap fun i => (lin M pu n fuel (i :: done)).map (i :: ·)

theorem lin_ok {P : Program} {L : List MI} {M : List Nat} {n : Nat} (hL : L.length = n)
    (hs : ∀ (i j : Nat) (mi mj : MI), i < j → L[i]? = some mi → L[j]? = some mj → (M.getD j 0).testBit i = false → slotOk mi mj = true) :
    ∀ (fuel : Nat) (done o : List Nat), o.length = fuel → (∀ i, i < n → i ∈ done ∨ i ∈ o) → (∀ i ∈ o, i < n ∧ i ∉ done) → o.Nodup → (∀ p j q, o = p ++ j :: q → ∀ i, i < n → (M.getD j 0).testBit i = true → i ∈ done ∨ i ∈ p) →
      ∃ l ∈ lin M (fun i => match L[i]? with | some m => pureOp m.op | none => false) n fuel done, ∀ s K, mops P (pickM L l) s K → mops P (pickM L o) s K
  | 0, done, o, hlen, hall, hin, hnd, hb => by
    have : o = [] := List.eq_nil_of_length_eq_zero hlen
    subst this
    exact ⟨[], by simp [lin], fun s K h => h⟩
  | fuel + 1, done, o, hlen, hall, hin, hnd, hb => by
    simp only [lin]
    split
    · rename_i x hx
      have hpx := List.find?_some hx
      have hmem := List.mem_of_find?_eq_some hx
      rw [List.mem_filter] at hmem
      obtain ⟨hxn, hxr⟩ := hmem
      simp only [List.mem_range] at hxn
      simp only [Bool.and_eq_true, Bool.not_eq_true', List.all_eq_true, List.mem_range, Bool.or_eq_true] at hxr
      have hxd : x ∉ done := by simpa using hxr.1
      have hready : ∀ k, k < n → (M.getD x 0).testBit k = true → k ∈ done := by
        intro k hk hbit
        rcases hxr.2 k hk with h | h
        · rw [hbit] at h; cases h
        · simpa using h
      have hxo : x ∈ o := (hall x hxn).resolve_left hxd
      obtain ⟨a, b, rfl⟩ := List.append_of_mem hxo
      have hmx : ∃ m, L[x]? = some m := ⟨L[x]'(by omega), List.getElem?_eq_getElem (by omega)⟩
      obtain ⟨m, hm⟩ := hmx
      simp only [hm] at hpx
      rw [List.nodup_append] at hnd
      obtain ⟨hna, hnb, hdis⟩ := hnd
      rw [List.nodup_cons] at hnb
      have hxa : x ∉ a := fun h => hdis x h x (by simp) rfl
      have hloose : ∀ y ∈ pickM L a, Loose m y := by
        intro my hmy
        unfold pickM at hmy
        rw [List.mem_filterMap] at hmy
        obtain ⟨y, hya, hy⟩ := hmy
        have hyo := hin y (by simp [hya])
        have hyx : y ≠ x := fun e => hxa (e ▸ hya)
        rcases Nat.lt_or_ge y x with h | h
        · have hbit : (M.getD x 0).testBit y = false := by
            cases hbb : (M.getD x 0).testBit y with
            | false => rfl
            | true => exact absurd (hready y hyo.1 hbb) hyo.2
          exact (Loose.of (hs y x my m h hy hm hbit)).symm
        · have hlt : x < y := by omega
          have hbit : (M.getD y 0).testBit x = false := by
            cases hbb : (M.getD y 0).testBit x with
            | false => rfl
            | true =>
              obtain ⟨a1, a2, ha⟩ := List.append_of_mem hya
              rcases hb a1 y (a2 ++ x :: b) (by rw [ha]; simp) x hxn hbb with h3 | h3
              · exact absurd h3 hxd
              · exact absurd (by rw [ha]; simp [h3]) hxa
          exact Loose.of (hs x y m my hlt hm hy hbit)
      obtain ⟨l, hl, h4⟩ := lin_ok hL hs fuel (x :: done) (a ++ b) (by simp only [List.length_append, List.length_cons] at hlen ⊢; omega)
        (fun i hi => by
          rcases hall i hi with h | h
          · exact .inl (by simp [h])
          · rw [List.mem_append, List.mem_cons] at h
            rcases h with h | rfl | h
            · exact .inr (by simp [h])
            · exact .inl (by simp)
            · exact .inr (by simp [h]))
        (fun i hi => by
          have h5 := hin i (by rw [List.mem_append] at hi ⊢; rcases hi with h | h <;> simp [h])
          refine ⟨h5.1, ?_⟩
          rw [List.mem_cons]
          rintro (rfl | h)
          · rw [List.mem_append] at hi
            rcases hi with h | h
            · exact hxa h
            · exact hnb.1 h
          · exact h5.2 h)
        (by
          rw [List.nodup_append]
          exact ⟨hna, hnb.2, fun u hu w hw => hdis u hu w (by simp [hw])⟩)
        (fun p j q hpq i hi hbit => by
          rw [List.append_eq_append_iff] at hpq
          rcases hpq with ⟨c, h5, h6⟩ | ⟨c, h5, h6⟩
          · -- p = a ++ c, b = c ++ j :: q
            rcases hb (a ++ x :: c) j q (by rw [h6]; simp) i hi hbit with h | h
            · exact .inl (by simp [h])
            · rw [List.mem_append, List.mem_cons] at h
              rcases h with h | rfl | h
              · exact .inr (by rw [h5]; simp [h])
              · exact .inl (by simp)
              · exact .inr (by rw [h5]; simp [h])
          · -- a = p ++ c, j :: q = c ++ b
            cases c with
            | nil =>
              simp only [List.append_nil] at h5
              simp only [List.nil_append] at h6
              subst h5
              rcases hb (a ++ [x]) j q (by rw [← h6]; simp) i hi hbit with h | h
              · exact .inl (by simp [h])
              · rw [List.mem_append, List.mem_singleton] at h
                rcases h with h | rfl
                · exact .inr h
                · exact .inl (by simp)
            | cons c0 c =>
              simp only [List.cons_append, List.cons.injEq] at h6
              obtain ⟨rfl, h6⟩ := h6
              rcases hb p j (c ++ x :: b) (by rw [h5]; simp) i hi hbit with h | h
              · exact .inl (by simp [h])
              · exact .inr h)
      refine ⟨x :: l, List.mem_map.2 ⟨l, hl, rfl⟩, fun s K h => ?_⟩
      have e1 : pickM L (x :: l) = m :: pickM L l := by simp [pickM, hm]
      have e2 : pickM L (a ++ x :: b) = pickM L a ++ m :: pickM L b := by simp [pickM, hm]
      have e3 : pickM L (a ++ b) = pickM L a ++ pickM L b := by simp [pickM]
      rw [e1] at h
      rw [e2]
      refine move_ops hpx _ _ _ hloose ?_
      simp only [mops] at h ⊢
      refine mops_mono (fun t g => ?_) h
      rw [← e3]; exact h4 t K g
    · cases o with
      | nil => simp at hlen
      | cons x o =>
        have hxo := hin x (by simp)
        rw [List.nodup_cons] at hnd
        have hmx : ∃ m, L[x]? = some m := ⟨L[x]'(by omega), List.getElem?_eq_getElem (by omega)⟩
        obtain ⟨m, hm⟩ := hmx
        obtain ⟨l, hl, h4⟩ := lin_ok hL hs fuel (x :: done) o (by simpa using hlen)
          (fun i hi => by
            rcases hall i hi with h | h
            · exact .inl (by simp [h])
            · rcases List.mem_cons.1 h with rfl | h
              · exact .inl (by simp)
              · exact .inr h)
          (fun i hi => by
            have h5 := hin i (by simp [hi])
            refine ⟨h5.1, ?_⟩
            rw [List.mem_cons]
            rintro (rfl | h)
            · exact hnd.1 hi
            · exact h5.2 h) hnd.2
          (fun p j q hpq i hi hbit => by
            rcases hb (x :: p) j q (by rw [hpq]; rfl) i hi hbit with h | h
            · exact .inl (by simp [h])
            · rcases List.mem_cons.1 h with rfl | h
              · exact .inl (by simp)
              · exact .inr h)
        refine ⟨x :: l, List.mem_flatMap.2 ⟨x, ?_, List.mem_map.2 ⟨l, hl, rfl⟩⟩, fun s K h => ?_⟩
        · rw [List.mem_filter]
          refine ⟨by simpa using hxo.1, ?_⟩
          simp only [Bool.and_eq_true, Bool.not_eq_true', List.all_eq_true, List.mem_range, Bool.or_eq_true]
          refine ⟨by simpa using hxo.2, fun k hk => ?_⟩
          cases hbit : (M.getD x 0).testBit k with
          | false => exact .inl rfl
          | true =>
            rcases hb [] x o rfl k hk hbit with h | h
            · exact .inr (by simpa using h)
            · simp at h
        · have e1 : pickM L (x :: l) = m :: pickM L l := by simp [pickM, hm]
          have e2 : pickM L (x :: o) = m :: pickM L o := by simp [pickM, hm]
          rw [e1] at h; rw [e2]
          simp only [mops] at h ⊢
          exact mops_mono (fun t g => h4 t K g) h
end Go.Rx
