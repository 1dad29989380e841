/-
  RxK: a region that draws its order: whatever order its edges allow, all comes to the same.
-/
import Derived.Test.YtophpmdlgphihapRxH
namespace Go.Rx
set_option linter.unusedVariables false
set_option linter.unusedSimpArgs false

/-- an order that the edges allow -/
structure Valid (ops : Array Oper) (l : List Nat) : Prop where
  nodup : l.Nodup
  all : ∀ i, i ∈ l ↔ i < ops.size
  pre : ∀ p i s, l = p ++ i :: s → ∀ o, ops[i]? = some o → ∀ e ∈ o.after, Region.binds .any e = true → e.on ∈ p

def edgesOk (ops : Array Oper) : Bool :=
  (List.range ops.size).all fun i => match ops[i]? with
    | some o => o.after.toList.all fun e => !Region.binds .any e || decide (e.on < i)
    | none => true

theorem edgesOk_lt {ops : Array Oper} (h : edgesOk ops = true) {i : Nat} {o : Oper} (ho : ops[i]? = some o) {e : Edge} (he : e ∈ o.after) (hb : Region.binds .any e = true) : e.on < i := by
  unfold edgesOk at h
  rw [List.all_eq_true] at h
  have hi : i < ops.size := (Array.getElem?_eq_some_iff.1 ho).1
  have := h i (by simpa using hi)
  rw [ho] at this
  simp only [List.all_eq_true] at this
  have h2 := this e (by simpa using he)
  simpa [hb] using h2

theorem go_valid {ops : Array Oper} (hok : edgesOk ops = true) : ∀ (fuel t : Nat) (listed : Array Bool) (acc : List Nat),
    fuel + acc.length = ops.size → listed.size = ops.size → (∀ i, i < ops.size → (listed[i]? = some true ↔ i ∈ acc)) → acc.Nodup → (∀ i ∈ acc, i < ops.size) →
    (∀ p i s, acc.reverse = p ++ i :: s → ∀ o, ops[i]? = some o → ∀ e ∈ o.after, Region.binds .any e = true → e.on ∈ p) → Valid ops (Region.linearise.go .any ops fuel t listed acc)
  | 0, t, listed, acc, hlen, hsz, hl, hnd, hlt, hpre => by
    simp only [Region.linearise.go]
    refine ⟨(List.reverse_perm acc).nodup_iff.2 hnd, ?_, hpre⟩
    intro i
    constructor
    · intro hi; exact hlt i (by simpa using hi)
    · intro hi
      -- a list without repetition, as long as there are numbers below, has them all
      have hsub : acc.Nodup ∧ acc.length = ops.size := ⟨hnd, by omega⟩
      rw [List.mem_reverse]
      by_cases hin : i ∈ acc
      · exact hin
      · exfalso
        have h1 : (i :: acc).Nodup := List.nodup_cons.2 ⟨hin, hnd⟩
        have h2 : (i :: acc) ⊆ List.range ops.size := by
          intro x hx
          rw [List.mem_range]
          rcases List.mem_cons.1 hx with rfl | h
          · exact hi
          · exact hlt x h
        have h4 : (i :: acc).length ≤ (List.range ops.size).length := h1.length_le_of_subset h2
        simp at h4; omega
  | fuel + 1, t, listed, acc, hlen, hsz, hl, hnd, hlt, hpre => by
    simp only [Region.linearise.go]
    generalize hrs : (List.range ops.size).filter (fun i => !listed.getD i true && ((ops[i]?).map (·.after.all fun e => !Region.binds .any e || listed.getD e.on false)).getD false) = rs
    have hget : ∀ i, i < ops.size → (listed.getD i true = true ↔ i ∈ acc) := by
      intro i hi
      have hi' : i < listed.size := by omega
      rw [← hl i hi, Array.getD_eq_getD_getElem?, Array.getElem?_eq_getElem hi']
      simp
    have hget2 : ∀ i, (listed.getD i false = true → i ∈ acc) := by
      intro i hi
      rw [Array.getD_eq_getD_getElem?] at hi
      by_cases hi' : i < listed.size
      · rw [← hl i (by omega), Array.getElem?_eq_getElem hi'] 
        rw [Array.getElem?_eq_getElem hi'] at hi
        simpa using hi
      · rw [Array.getElem?_eq_none (by omega)] at hi; simp at hi
    have hget3 : ∀ i, i < ops.size → i ∈ acc → listed.getD i false = true := by
      intro i hi hm
      have hi' : i < listed.size := by omega
      have := (hl i hi).2 hm
      rw [Array.getD_eq_getD_getElem?, this]; rfl
    -- some number is ready
    have hne : rs ≠ [] := by
      have hex : ∃ i, i < ops.size ∧ i ∉ acc := by
        by_cases hall : ∀ i, i < ops.size → i ∈ acc
        · exfalso
          have h2 : List.range ops.size ⊆ acc := fun x hx => hall x (by simpa using hx)
          have h4 : (List.range ops.size).length ≤ acc.length := (List.nodup_range (n := ops.size)).length_le_of_subset h2
          simp at h4; omega
        · simpa using hall
      -- the least of them
      have hleast : ∃ i, (i < ops.size ∧ i ∉ acc) ∧ ∀ k, k < i → k ∈ acc := by
        obtain ⟨i, hi⟩ := hex
        induction i using Nat.strongRecOn with
        | _ i ih =>
          by_cases h : ∀ k, k < i → k ∈ acc
          · exact ⟨i, hi, h⟩
          · have : ∃ k, k < i ∧ k ∉ acc := by simpa using h
            obtain ⟨k, hk, hk2⟩ := this
            exact ih k hk ⟨by omega, hk2⟩
      obtain ⟨i, ⟨hi, hni⟩, hbelow⟩ := hleast
      have hmem : i ∈ rs := by
        rw [← hrs, List.mem_filter]
        refine ⟨by simpa using hi, ?_⟩
        have h1 : listed.getD i true = false := by
          cases hb : listed.getD i true with
          | false => rfl
          | true => exact absurd ((hget i hi).1 hb) hni
        rw [h1, Array.getElem?_eq_getElem hi]
        simp only [Option.map_some, Option.getD_some, Bool.not_false, Bool.true_and]
        rw [Array.all_eq_true_iff_forall_mem]
        intro e he
        cases hb : Region.binds .any e with
        | false => simp
        | true =>
          have := edgesOk_lt hok (Array.getElem?_eq_getElem hi) he hb
          simp [hget3 e.on (by omega) (hbelow _ this)]
      intro h; rw [h] at hmem; simp at hmem
    have hpos : 0 < rs.length := List.length_pos_iff.2 hne
    have hidx : t % rs.length < rs.length := Nat.mod_lt _ hpos
    rw [List.getElem?_eq_getElem hidx]
    simp only
    generalize hi : rs[t % rs.length] = i
    have hmem : i ∈ rs := by rw [← hi]; exact List.getElem_mem hidx
    rw [← hrs, List.mem_filter] at hmem
    obtain ⟨hm1, hm2⟩ := hmem
    have hilt : i < ops.size := by simpa using hm1
    rw [Bool.and_eq_true] at hm2
    have hni : i ∉ acc := by
      intro h
      have := (hget i hilt).2 h
      simp [this] at hm2
    refine go_valid hok fuel _ _ _ (by simp; omega) (by simp [hsz]) ?_ (List.nodup_cons.2 ⟨hni, hnd⟩) ?_ ?_
    · intro k hk
      by_cases hki : k = i
      · subst hki
        rw [Array.getElem?_setIfInBounds_self_of_lt (by omega)]
        simp
      · rw [Array.getElem?_setIfInBounds_ne (Ne.symm hki), hl k hk]
        simp [hki]
    · intro k hk
      rcases List.mem_cons.1 hk with rfl | h
      · exact hilt
      · exact hlt k h
    · intro p k s heq o ho e he hb
      rw [List.reverse_cons] at heq
      rcases List.append_eq_append_iff.1 heq with ⟨q, hq1, hq2⟩ | ⟨q, hq1, hq2⟩
      · -- acc.reverse ++ [i] = p ++ k :: s with p = acc.reverse ++ q
        cases q with
        | nil =>
          simp only [List.append_nil] at hq1
          simp only [List.nil_append, List.cons.injEq] at hq2
          obtain ⟨rfl, _⟩ := hq2
          rw [hq1, List.mem_reverse]
          apply hget2
          have h3 := hm2.2
          rw [ho] at h3
          simp only [Option.map_some, Option.getD_some] at h3
          rw [Array.all_eq_true_iff_forall_mem] at h3
          have := h3 e he
          simpa [hb] using this
        | cons x q =>
          simp at hq2
      · cases q with
        | nil =>
          simp only [List.append_nil] at hq1
          simp only [List.nil_append, List.cons.injEq] at hq2
          obtain ⟨rfl, _⟩ := hq2
          rw [← hq1, List.mem_reverse]
          apply hget2
          have h3 := hm2.2
          rw [ho] at h3
          simp only [Option.map_some, Option.getD_some] at h3
          rw [Array.all_eq_true_iff_forall_mem] at h3
          have := h3 e he
          simpa [hb] using this
        | cons x q =>
          simp only [List.cons_append, List.cons.injEq] at hq2
          obtain ⟨rfl, _⟩ := hq2
          exact hpre p k q hq1 o ho e he hb

theorem linearise_valid {ops : Array Oper} (hok : edgesOk ops = true) (t : Nat) : Valid ops (Region.linearise .any ops t) := by
  unfold Region.linearise
  refine go_valid hok _ _ _ [] (by simp) (by simp) ?_ (by simp) (by simp) (by simp)
  intro i hi
  simp [hi]

/-! ## what an operation reads and writes -/

def MX.slots : MX → List Nat
  | .t i => [i]
  | .c _ => []

def oslots : Option MX → List Nat
  | some x => x.slots
  | none => []

def MQ.slots : MQ → List Nat
  | .mk => []
  | .lk x k _ _ _ | .dl x k _ => x.slots ++ k.slots
  | .up x k v _ => x.slots ++ k.slots ++ v.slots
  | .rg x | .nx x | .en x => x.slots

def MOp.slots : MOp → List Nat
  | .mv x | .cap0 x | .un _ x | .conv _ x | .len x | .lens x | .fa x _ | .box x | .ext x _ | .nilck x | .mki _ x | .mkb _ x | .mkm _ x | .nilckm x _ | .tas x _ _ _ | .tai x _ _ _ | .ld x _ _ | .fld x _ _ _ | .sla x _ _ => x.slots
  | .bin _ x y | .beq _ x y | .nileq _ x y | .peq _ x y | .ageq _ _ x y | .ixa x y _ | .arra x y _ _ | .arr x y _ _ _ | .chr x y | .st x y _ | .app0 x y _ _ _ | .cpy x y _ | .mks x y _ _ _ | .app x y _ _ => x.slots ++ y.slots
  | .pick c a b => c.slots ++ a.slots ++ b.slots
  | .bsl _ _ _ ps => ps.flatMap (·.2.slots)
  | .bld _ ps => ps.flatMap (·.2.2.slots)
  | .new _ => []
  | .die => []
  | .sl x lo hi mx _ => x.slots ++ oslots lo ++ oslots hi ++ oslots mx
  | .sls x lo hi => x.slots ++ oslots lo ++ oslots hi
  | .mnmx _ x ys => x.slots ++ ys.flatMap MX.slots
  | .mkf _ cs => cs.flatMap MX.slots
  | .call _ as => as.flatMap MX.slots
  | .callv f as => f.slots ++ as.flatMap MX.slots
  | .inv _ x as => x.slots ++ as.flatMap MX.slots
  | .mq q => q.slots

def vid : AV → List Nat
  | .ptr id _ => [id]
  | .gl g _ => [g]
  | .slice id _ _ _ _ => [id]
  | _ => []

def foot (τ : Nat → AV) : MOp → List Nat
  | .ld p _ _ => vid (p.ev τ)
  | .st p _ _ => vid (p.ev τ)
  | .app x y _ _ => vid (x.ev τ) ++ vid (y.ev τ)
  | .cpy x y _ => vid (x.ev τ) ++ vid (y.ev τ)
  | .sla x _ _ => vid (x.ev τ)
  | _ => []

def touch (nid : Nat) (τ : Nat → AV) : MOp → List Nat
  | .st p _ _ => vid (p.ev τ)
  | .cpy x _ _ => vid (x.ev τ)
  | .app x _ _ _ => nid :: vid (x.ev τ)
  | .mks .. | .app0 .. | .bsl .. | .box .. | .new .. => [nid]
  | _ => []

theorem ev_congr {τ τ2 : Nat → AV} {x : MX} (h : ∀ t ∈ x.slots, τ2 t = τ t) : x.ev τ2 = x.ev τ := by
  cases x with
  | t i => exact h i (by simp [MX.slots])
  | c v => rfl

theorem evo_congr {τ τ2 : Nat → AV} {x : Option MX} (h : ∀ t ∈ oslots x, τ2 t = τ t) : x.map (·.ev τ2) = x.map (·.ev τ) := by
  cases x with
  | none => rfl
  | some x => simp only [Option.map_some]; rw [ev_congr h]

theorem evs_congr {τ τ2 : Nat → AV} {l : List MX} (h : ∀ t ∈ l.flatMap MX.slots, τ2 t = τ t) : l.map (·.ev τ2) = l.map (·.ev τ) := by
  apply List.map_congr_left
  intro x hx
  exact ev_congr fun t ht => h t (by rw [List.mem_flatMap]; exact ⟨x, hx, ht⟩)

theorem slots_congr {τ τ2 : Nat → AV} {m : MOp} (h : ∀ t ∈ m.slots, τ2 t = τ t) (nid : Nat) (H : Heap) : mstep nid τ2 H m = mstep nid τ H m ∧ foot τ2 m = foot τ m ∧ touch nid τ2 m = touch nid τ m := by
  cases m with
  | bsl n es z ps =>
    have e : (ps.map fun p => (p.1 * es, es, p.2.ev τ2)) = ps.map fun p => (p.1 * es, es, p.2.ev τ) := by
      apply List.map_congr_left
      intro x hx
      rw [ev_congr (τ := τ) (τ2 := τ2) fun t ht => h t (by simp only [MOp.slots, List.mem_flatMap]; exact ⟨x, hx, ht⟩)]
    exact ⟨by simp only [mstep, e], rfl, rfl⟩
  | bld z ps =>
    have e : (ps.map fun p => (p.1, p.2.1, p.2.2.ev τ2)) = ps.map fun p => (p.1, p.2.1, p.2.2.ev τ) := by
      apply List.map_congr_left
      intro x hx
      rw [ev_congr (τ := τ) (τ2 := τ2) fun t ht => h t (by simp only [MOp.slots, List.mem_flatMap]; exact ⟨x, hx, ht⟩)]
    exact ⟨by simp only [mstep, e], rfl, rfl⟩
  | new z => exact ⟨rfl, rfl, rfl⟩
  | sl x lo hi mx es =>
    simp only [MOp.slots, List.mem_append] at h
    have e1 := ev_congr (x := x) fun t ht => h t (.inl (.inl (.inl ht)))
    have e2 := evo_congr (x := lo) fun t ht => h t (.inl (.inl (.inr ht)))
    have e3 := evo_congr (x := hi) fun t ht => h t (.inl (.inr ht))
    have e4 := evo_congr (x := mx) fun t ht => h t (.inr ht)
    exact ⟨by simp only [mstep, e1, e2, e3, e4], rfl, rfl⟩
  | sls x lo hi =>
    simp only [MOp.slots, List.mem_append] at h
    have e1 := ev_congr (x := x) fun t ht => h t (.inl (.inl ht))
    have e2 := evo_congr (x := lo) fun t ht => h t (.inl (.inr ht))
    have e3 := evo_congr (x := hi) fun t ht => h t (.inr ht)
    exact ⟨by simp only [mstep, e1, e2, e3], rfl, rfl⟩
  | mnmx mx x ys =>
    simp only [MOp.slots, List.mem_append] at h
    have e1 := ev_congr (x := x) fun t ht => h t (.inl ht)
    have e2 := evs_congr (l := ys) fun t ht => h t (.inr ht)
    exact ⟨by simp only [mstep, e1, e2], rfl, rfl⟩
  | mkf f cs =>
    have e2 := evs_congr (l := cs) fun t ht => h t ht
    exact ⟨by simp only [mstep, e2], rfl, rfl⟩
  | call f as => exact ⟨rfl, rfl, rfl⟩
  | callv f as => exact ⟨rfl, rfl, rfl⟩
  | inv tab x as => exact ⟨rfl, rfl, rfl⟩
  | mq q => exact ⟨rfl, rfl, rfl⟩
  | mkm name x => have e := ev_congr (x := x) h; exact ⟨by simp only [mstep, e], rfl, rfl⟩
  | nilckm x tabs => have e := ev_congr (x := x) h; exact ⟨by simp only [mstep, e], rfl, rfl⟩
  | tas x t ok z => have e := ev_congr (x := x) h; exact ⟨by simp only [mstep, e], rfl, rfl⟩
  | tai x ts us ok => have e := ev_congr (x := x) h; exact ⟨by simp only [mstep, e], rfl, rfl⟩
  | pick c x y =>
    simp only [MOp.slots, List.mem_append] at h
    have e1 := ev_congr (x := c) fun t ht => h t (.inl (.inl ht))
    have e2 := ev_congr (x := x) fun t ht => h t (.inl (.inr ht))
    have e3 := ev_congr (x := y) fun t ht => h t (.inr ht)
    exact ⟨by simp only [mstep, e1, e2, e3], rfl, rfl⟩
  | mv x => have e := ev_congr (x := x) h; exact ⟨by simp only [mstep, e], rfl, rfl⟩
  | mkb f x => have e := ev_congr (x := x) h; exact ⟨by simp only [mstep, e], rfl, rfl⟩
  | un op x => have e := ev_congr (x := x) h; exact ⟨by simp only [mstep, e], rfl, rfl⟩
  | conv k x => have e := ev_congr (x := x) h; exact ⟨by simp only [mstep, e], rfl, rfl⟩
  | cap0 x => have e := ev_congr (x := x) h; exact ⟨by simp only [mstep, e], rfl, rfl⟩
  | die => exact ⟨rfl, rfl, rfl⟩
  | len x => have e := ev_congr (x := x) h; exact ⟨by simp only [mstep, e], rfl, rfl⟩
  | lens x => have e := ev_congr (x := x) h; exact ⟨by simp only [mstep, e], rfl, rfl⟩
  | fa x o => have e := ev_congr (x := x) h; exact ⟨by simp only [mstep, e], rfl, rfl⟩
  | box x => have e := ev_congr (x := x) h; exact ⟨by simp only [mstep, e], rfl, rfl⟩
  | ext x i => have e := ev_congr (x := x) h; exact ⟨by simp only [mstep, e], rfl, rfl⟩
  | nilck x => have e := ev_congr (x := x) h; exact ⟨by simp only [mstep, e], rfl, rfl⟩
  | mki t x => have e := ev_congr (x := x) h; exact ⟨by simp only [mstep, e], rfl, rfl⟩
  | sla x n es => have e := ev_congr (x := x) h; exact ⟨by simp only [mstep, e], by simp only [foot, e], rfl⟩
  | ld x n ag => have e := ev_congr (x := x) h; exact ⟨by simp only [mstep, e], by simp only [foot, e], rfl⟩
  | fld x o n ag => have e := ev_congr (x := x) h; exact ⟨by simp only [mstep, e], rfl, rfl⟩
  | bin op x y =>
    simp only [MOp.slots, List.mem_append] at h
    have e1 := ev_congr (x := x) fun t ht => h t (.inl ht)
    have e2 := ev_congr (x := y) fun t ht => h t (.inr ht)
    exact ⟨by simp only [mstep, e1, e2], rfl, rfl⟩
  | beq neg x y =>
    simp only [MOp.slots, List.mem_append] at h
    have e1 := ev_congr (x := x) fun t ht => h t (.inl ht)
    have e2 := ev_congr (x := y) fun t ht => h t (.inr ht)
    exact ⟨by simp only [mstep, e1, e2], rfl, rfl⟩
  | nileq neg x y =>
    simp only [MOp.slots, List.mem_append] at h
    have e1 := ev_congr (x := x) fun t ht => h t (.inl ht)
    have e2 := ev_congr (x := y) fun t ht => h t (.inr ht)
    exact ⟨by simp only [mstep, e1, e2], rfl, rfl⟩
  | peq neg x y =>
    simp only [MOp.slots, List.mem_append] at h
    have e1 := ev_congr (x := x) fun t ht => h t (.inl ht)
    have e2 := ev_congr (x := y) fun t ht => h t (.inr ht)
    exact ⟨by simp only [mstep, e1, e2], rfl, rfl⟩
  | ageq neg n x y =>
    simp only [MOp.slots, List.mem_append] at h
    have e1 := ev_congr (x := x) fun t ht => h t (.inl ht)
    have e2 := ev_congr (x := y) fun t ht => h t (.inr ht)
    exact ⟨by simp only [mstep, e1, e2], rfl, rfl⟩
  | ixa x y es =>
    simp only [MOp.slots, List.mem_append] at h
    have e1 := ev_congr (x := x) fun t ht => h t (.inl ht)
    have e2 := ev_congr (x := y) fun t ht => h t (.inr ht)
    exact ⟨by simp only [mstep, e1, e2], rfl, rfl⟩
  | arra x y n es =>
    simp only [MOp.slots, List.mem_append] at h
    have e1 := ev_congr (x := x) fun t ht => h t (.inl ht)
    have e2 := ev_congr (x := y) fun t ht => h t (.inr ht)
    exact ⟨by simp only [mstep, e1, e2], rfl, rfl⟩
  | arr x y n es ag =>
    simp only [MOp.slots, List.mem_append] at h
    have e1 := ev_congr (x := x) fun t ht => h t (.inl ht)
    have e2 := ev_congr (x := y) fun t ht => h t (.inr ht)
    exact ⟨by simp only [mstep, e1, e2], rfl, rfl⟩
  | chr x y =>
    simp only [MOp.slots, List.mem_append] at h
    have e1 := ev_congr (x := x) fun t ht => h t (.inl ht)
    have e2 := ev_congr (x := y) fun t ht => h t (.inr ht)
    exact ⟨by simp only [mstep, e1, e2], rfl, rfl⟩
  | cpy x y n =>
    simp only [MOp.slots, List.mem_append] at h
    have e1 := ev_congr (x := x) fun t ht => h t (.inl ht)
    have e2 := ev_congr (x := y) fun t ht => h t (.inr ht)
    exact ⟨by simp only [mstep, e1, e2], by simp only [foot, e1, e2], by simp only [touch, e1]⟩
  | st x y n =>
    simp only [MOp.slots, List.mem_append] at h
    have e1 := ev_congr (x := x) fun t ht => h t (.inl ht)
    have e2 := ev_congr (x := y) fun t ht => h t (.inr ht)
    exact ⟨by simp only [mstep, e1, e2], by simp only [foot, e1], by simp only [touch, e1]⟩
  | app0 x y z es b =>
    simp only [MOp.slots, List.mem_append] at h
    have e1 := ev_congr (x := x) fun t ht => h t (.inl ht)
    have e2 := ev_congr (x := y) fun t ht => h t (.inr ht)
    exact ⟨by simp only [mstep, e1, e2], rfl, rfl⟩
  | mks x y z es b =>
    simp only [MOp.slots, List.mem_append] at h
    have e1 := ev_congr (x := x) fun t ht => h t (.inl ht)
    have e2 := ev_congr (x := y) fun t ht => h t (.inr ht)
    exact ⟨by simp only [mstep, e1, e2], rfl, rfl⟩
  | app x y es b =>
    simp only [MOp.slots, List.mem_append] at h
    have e1 := ev_congr (x := x) fun t ht => h t (.inl ht)
    have e2 := ev_congr (x := y) fun t ht => h t (.inr ht)
    exact ⟨by simp only [mstep, e1, e2], by simp only [foot, e1, e2], by simp only [touch, e1]⟩

theorem read_congr {H H2 : Heap} {p : AV} (h : ∀ id ∈ vid p, H2.get id = H.get id) (n : Nat) : H2.read p n = H.read p n := by
  cases p <;> simp only [Heap.read]
  · rename_i id off
    rw [h id (by simp [vid])]
  · rename_i g off
    rw [h g (by simp [vid])]

/-- the function that a call enters, and its arguments -/
def mcallee (P : Program) (τ : Nat → AV) : MOp → Option (FuncId × List AV)
  | .call f as => some (f, as.map (·.ev τ))
  | .callv fv as => match fv.ev τ with
    | .func f cs => some (f, as.map (·.ev τ) ++ cs)
    | .bound f x => some (f, x :: as.map (·.ev τ))
    | .imeth name t v => (methOf P name t).map fun f => (f, v :: as.map (·.ev τ))
    | _ => none
  | .inv tab x as => match x.ev τ with
    | .iface t v => (tabGet tab t).map fun f => (f, v :: as.map (·.ev τ))
    | _ => none
  | _ => none
theorem mcallee_congr {P : Program} {τ τ2 : Nat → AV} {m : MOp} (h : ∀ t ∈ m.slots, τ2 t = τ t) : mcallee P τ2 m = mcallee P τ m := by
  cases m <;> try rfl
  · rename_i f as
    have e := evs_congr (l := as) (τ := τ) (τ2 := τ2) h
    simp only [mcallee, e]
  · rename_i fv as
    have e1 := ev_congr (x := fv) (τ := τ) (τ2 := τ2) fun t ht => h t (by simp [MOp.slots, ht])
    have e2 := evs_congr (l := as) (τ := τ) (τ2 := τ2) fun t ht => h t (by rw [MOp.slots]; exact List.mem_append_right _ ht)
    simp only [mcallee, e1, e2]
  · rename_i tab x as
    have e1 := ev_congr (x := x) (τ := τ) (τ2 := τ2) fun t ht => h t (by simp [MOp.slots, ht])
    have e2 := evs_congr (l := as) (τ := τ) (τ2 := τ2) fun t ht => h t (by rw [MOp.slots]; exact List.mem_append_right _ ht)
    simp only [mcallee, e1, e2]
theorem mcallee_isCall {P : Program} {τ : Nat → AV} {m : MOp} {q : FuncId × List AV} (h : mcallee P τ m = some q) : m.isCall = true := by
  cases m <;> first | rfl | (simp [mcallee] at h; done)

theorem row_congr {H H2 : Heap} {v : AV} (h : ∀ id ∈ vid v, H2.get id = H.get id) : H2.row v = H.row v := by
  cases v <;> simp only [Heap.row]
  rename_i id off n cap es
  rw [read_congr (H := H) (H2 := H2) (p := .ptr id off) (fun i hi => h i (by simpa [vid] using hi))]

/-- operations that make a block -/
def allocs : MOp → Bool
  | .app .. | .app0 .. | .mks .. | .bsl .. | .box .. | .new .. => true
  | _ => false

theorem nid_any {m : MOp} (h : allocs m = false) (nid nid' : Nat) (τ : Nat → AV) (H : Heap) : mstep nid τ H m = mstep nid' τ H m := by
  cases m <;> first | rfl | (simp [allocs] at h)

theorem map_pair {α : Type} {o : Option α} {f : α → AV} {H H2 H' : Heap} {v : AV} (h : o.map (fun x => (f x, H)) = some (v, H')) : H' = H ∧ o.map (fun x => (f x, H2)) = some (v, H2) := by
  cases o with
  | none => simp at h
  | some x => simp only [Option.map_some, Option.some.injEq, Prod.mk.injEq] at h ⊢; exact ⟨h.2.symm, h.1, trivial⟩

theorem some_pair {x v : AV} {H H' : Heap} (h : some (x, H) = some (v, H')) : x = v ∧ H' = H := by
  simp only [Option.some.injEq, Prod.mk.injEq] at h; exact ⟨h.1, h.2.symm⟩

theorem map_ob {α : Type} {o : Option α} {f : α → AV} {H H' : Heap} {v : AV} (h : o.map (fun x => (f x, H)) = some (v, H')) : H'.ob = H.ob := by
  cases o with
  | none => simp at h
  | some x => simp only [Option.map_some, Option.some.injEq, Prod.mk.injEq] at h; rw [← h.2]

theorem write_ob {H H' : Heap} {p : AV} {vs : List AV} (h : H.write p vs = some H') : H'.ob = H.ob := by
  unfold Heap.write at h
  (repeat' split at h) <;> first | (cases h; done) | (simp only [Option.some.injEq] at h; subst h; rfl)

theorem mapp_ob {nid : Nat} {H H' : Heap} {x y v : AV} {es bytes : Nat} (h : mapp nid H x y es bytes = some (v, H')) : H'.ob = H.ob := by
  unfold mapp at h
  (repeat' split at h) <;> first | (cases h; done) | (simp only [Option.some.injEq, Prod.mk.injEq] at h; rw [← h.2]; done) | (simp only [Option.some.injEq, Prod.mk.injEq] at h; rw [← h.2]; rfl)

/-- no operation touches a loop's record -/
theorem mstep_ob {nid : Nat} {τ : Nat → AV} {H H' : Heap} {m : MOp} {v : AV} (h : mstep nid τ H m = some (v, H')) : H'.ob = H.ob := by
  cases m with
  | app x y es bytes => exact mapp_ob h
  | cpy x y es =>
    simp only [mstep] at h
    (repeat' split at h) <;> first
      | (cases h; done)
      | (rw [(some_pair h).2]; done)
      | (rw [Option.map_eq_some_iff] at h
         obtain ⟨K, hK, he⟩ := h
         simp only [Prod.mk.injEq] at he
         rw [← he.2]; exact write_ob hK)
  | st p v n =>
    simp only [mstep] at h
    split at h
    · rw [Option.map_eq_some_iff] at h
      obtain ⟨K, hK, he⟩ := h
      simp only [Prod.mk.injEq] at he
      rw [← he.2]; exact write_ob hK
    · cases h
  | _ =>
    revert h
    simp only [mstep]
    (repeat' split) <;> intro h <;> first
      | (cases h; done)
      | (rw [(some_pair h).2]; done)
      | (rw [(some_pair h).2]; rfl)
      | exact map_ob h

/-- an operation looks at its own blocks alone, and writes its own alone -/
theorem mstep_local {nid : Nat} {τ : Nat → AV} {H H2 H' : Heap} {m : MOp} {v : AV} (h : mstep nid τ H m = some (v, H')) (hn : allocs m = true → nid < H.size) (hs : H2.size = H.size) (hH : ∀ id ∈ foot τ m ++ touch nid τ m, H2.get id = H.get id) :
    ∃ H2', mstep nid τ H2 m = some (v, H2') ∧ H2'.size = H2.size ∧ H'.size = H.size ∧ (∀ id ∈ touch nid τ m, H2'.get id = H'.get id) ∧ (∀ id, id ∉ touch nid τ m → H2'.get id = H2.get id) ∧ ∀ id, id ∉ touch nid τ m → H'.get id = H.get id := by
  have put1 : ∀ (K : Heap) (b : Option Blk), nid < K.size → (K.new nid b).size = K.size := fun K b hk => by rw [Heap.size_new, if_pos hk]
  have quiet : H' = H → mstep nid τ H2 m = some (v, H2) → touch nid τ m = [] → ∃ H2', mstep nid τ H2 m = some (v, H2') ∧ H2'.size = H2.size ∧ H'.size = H.size ∧ (∀ id ∈ touch nid τ m, H2'.get id = H'.get id) ∧ (∀ id, id ∉ touch nid τ m → H2'.get id = H2.get id) ∧ ∀ id, id ∉ touch nid τ m → H'.get id = H.get id := by
    rintro rfl h2 h3
    exact ⟨H2, h2, rfl, rfl, by simp [h3], fun _ _ => rfl, fun _ _ => rfl⟩
  have fresh : ∀ b, H' = H.new nid b → mstep nid τ H2 m = some (v, H2.new nid b) → touch nid τ m = [nid] → nid < H.size → ∃ H2', mstep nid τ H2 m = some (v, H2') ∧ H2'.size = H2.size ∧ H'.size = H.size ∧ (∀ id ∈ touch nid τ m, H2'.get id = H'.get id) ∧ (∀ id, id ∉ touch nid τ m → H2'.get id = H2.get id) ∧ ∀ id, id ∉ touch nid τ m → H'.get id = H.get id := by
    rintro b rfl h2 h3 hn
    refine ⟨_, h2, put1 _ _ (by omega), put1 _ _ hn, ?_, ?_, ?_⟩
    · intro id hid; rw [h3, List.mem_singleton] at hid; subst hid; simp [Heap.get_put, Heap.get_new]
    · intro id hid; rw [h3, List.mem_singleton] at hid; simp [Heap.get_put, Heap.get_new, hid]
    · intro id hid; rw [h3, List.mem_singleton] at hid; simp [Heap.get_put, Heap.get_new, hid]
  cases m with
  | ld p n ag =>
    have e := read_congr (p := p.ev τ) (fun i hi => hH i (List.mem_append_left _ hi)) n
    simp only [mstep] at h
    split at h
    · rename_i cs hcs
      simp only [Option.map_eq_some_iff, Prod.mk.injEq] at h
      obtain ⟨r, hr, rfl, rfl⟩ := h
      refine quiet rfl ?_ rfl
      simp only [mstep, e, hcs, hr, Option.map_some]
    · cases h
  | sla p n es =>
    simp only [mstep] at h
    split at h
    · rename_i id off hp
      have hg : H2.get id = H.get id := hH id (by simp [foot, touch, hp, vid])
      split at h
      · rename_i b hb
        split at h
        · rename_i hc
          simp only [Option.some.injEq, Prod.mk.injEq] at h
          obtain ⟨rfl, rfl⟩ := h
          refine quiet rfl ?_ rfl
          simp only [mstep, hp, hg, hb, if_pos hc]
        · cases h
      · cases h
    · cases h
  | cpy x y es =>
    have ey := row_congr (v := y.ev τ) (H := H) (H2 := H2) fun id hi => hH id (by simp only [foot, List.mem_append]; exact .inl (.inr hi))
    simp only [mstep] at h
    simp only [mstep, ey]
    split at h
    rotate_left
    · cases h
    rename_i hs
    rw [if_pos hs]
    split at h
    · rename_i cs id off n cap es' hrow hx
      have hg : H2.get id = H.get id := hH id (by simp [foot, touch, hx, vid])
      split at h
      rotate_left
      · cases h
      rename_i hc
      rw [if_pos hc]
      split at h
      · rename_i h0
        simp only [Option.some.injEq, Prod.mk.injEq] at h
        obtain ⟨rfl, rfl⟩ := h
        rw [if_pos h0]
        exact ⟨H2, rfl, rfl, rfl, fun i hi => hH i (List.mem_append_right _ hi), fun _ _ => rfl, fun _ _ => rfl⟩
      · rename_i h0
        rw [if_neg h0]
        simp only [Option.map_eq_some_iff, Prod.mk.injEq] at h
        obtain ⟨K, hK, rfl, rfl⟩ := h
        simp only [Heap.write] at hK
        split at hK
        · rename_i b hb
          split at hK
          · rename_i hc
            simp only [Option.some.injEq] at hK; subst hK
            refine ⟨H2.put id (some ⟨true, b.cells.take off ++ cs.take (min (y.ev τ).len n * es) ++ b.cells.drop (off + (cs.take (min (y.ev τ).len n * es)).length)⟩), ?_, rfl, rfl, ?_, ?_, ?_⟩
            · simp only [Heap.write, hg, hb, if_pos hc, Option.map_some]
            · intro i hi; simp only [touch, hx, vid, List.mem_singleton] at hi; subst hi; simp [Heap.get_put, Heap.get_new]
            · intro i hi; simp only [touch, hx, vid, List.mem_singleton] at hi; simp [Heap.get_put, Heap.get_new, hi]
            · intro i hi; simp only [touch, hx, vid, List.mem_singleton] at hi; simp [Heap.get_put, Heap.get_new, hi]
          · cases hK
        · cases hK
    · rename_i cs hrow hx
      simp only [Option.some.injEq, Prod.mk.injEq] at h
      obtain ⟨rfl, rfl⟩ := h
      exact ⟨H2, rfl, rfl, rfl, fun i hi => hH i (List.mem_append_right _ hi), fun _ _ => rfl, fun _ _ => rfl⟩
    · cases h
  | st p x n =>
    simp only [mstep] at h
    split at h
    · rename_i hl
      simp only [Option.map_eq_some_iff, Prod.mk.injEq] at h
      obtain ⟨K, hK, rfl, rfl⟩ := h
      cases hp : p.ev τ with
      | ptr id off =>
        have hg : H2.get id = H.get id := hH id (by simp [foot, touch, hp, vid])
        rw [hp] at hK
        simp only [Heap.write] at hK
        split at hK
        · rename_i b hb
          split at hK
          · rename_i hc
            simp only [Option.some.injEq] at hK; subst hK
            refine ⟨H2.put id (some ⟨true, b.cells.take off ++ (x.ev τ).cells ++ b.cells.drop (off + (x.ev τ).cells.length)⟩), ?_, rfl, rfl, ?_, ?_, ?_⟩
            · simp only [mstep]
              rw [if_pos hl, hp]
              simp only [Heap.write, hg, hb, if_pos hc, Option.map_some]
            · intro i hi; simp only [touch, hp, vid, List.mem_singleton] at hi; subst hi; simp [Heap.get_put, Heap.get_new]
            · intro i hi; simp only [touch, hp, vid, List.mem_singleton] at hi; simp [Heap.get_put, Heap.get_new, hi]
            · intro i hi; simp only [touch, hp, vid, List.mem_singleton] at hi; simp [Heap.get_put, Heap.get_new, hi]
          · cases hK
        · cases hK
      | _ => rw [hp] at hK; simp [Heap.write] at hK
    · cases h
  | app x y es b =>
    have ey := row_congr (v := y.ev τ) (H := H) (H2 := H2) fun id hi => hH id (by simp only [foot, List.mem_append]; exact .inl (.inr hi))
    have hnid : H2.get nid = H.get nid := hH nid (by simp [touch])
    have hn := hn rfl
    simp only [mstep, mapp] at h
    simp only [mstep, mapp, ey]
    split at h
    rotate_left
    · cases h
    rename_i h1
    rw [if_pos h1]
    split at h
    · cases h
    rename_i news h2
    split at h
    rotate_left
    · cases h
    rename_i h3
    rw [if_pos h3]
    cases hx : x.ev τ with
    | nilSlice =>
      rw [hx] at h
      simp only at h ⊢
      split at h
      · rename_i h4
        rw [if_pos h4]
        simp only [Option.some.injEq, Prod.mk.injEq] at h
        obtain ⟨rfl, rfl⟩ := h
        exact ⟨H2, rfl, rfl, rfl, fun i hi => (by simp only [touch, hx, vid, List.mem_singleton] at hi; subst hi; exact hnid), fun _ _ => rfl, fun _ _ => rfl⟩
      · rename_i h4
        rw [if_neg h4]
        split at h
        · rename_i h5
          rw [if_pos h5]
          simp only [Option.some.injEq, Prod.mk.injEq] at h
          obtain ⟨rfl, rfl⟩ := h
          refine ⟨_, rfl, put1 _ _ (by omega), put1 _ _ hn, ?_, ?_, ?_⟩
          · intro i hi; simp only [touch, hx, vid, List.mem_singleton] at hi; subst hi; simp [Heap.get_put, Heap.get_new]
          · intro i hi; simp only [touch, hx, vid, List.mem_singleton] at hi; simp [Heap.get_put, Heap.get_new, hi]
          · intro i hi; simp only [touch, hx, vid, List.mem_singleton] at hi; simp [Heap.get_put, Heap.get_new, hi]
        · cases h
    | slice id off n cap es' =>
      have hgid : H2.get id = H.get id := hH id (by simp [touch, hx, vid])
      have hin : ∀ i, i ∈ touch nid τ (.app x y es b) ↔ (i = nid ∨ i = id) := by intro i; simp [touch, hx, vid]
      rw [hx] at h
      simp only at h ⊢
      split at h
      · rename_i h4
        rw [if_pos h4]
        simp only [Option.some.injEq, Prod.mk.injEq] at h
        obtain ⟨rfl, rfl⟩ := h
        exact ⟨H2, rfl, rfl, rfl, fun i hi => (by rcases (hin i).1 hi with rfl | rfl <;> assumption), fun _ _ => rfl, fun _ _ => rfl⟩
      · rename_i h4
        rw [if_neg h4]
        split at h
        rotate_left
        · cases h
        rename_i h5
        rw [if_pos h5]
        split at h
        · cases h
        rename_i bk h6
        rw [hgid, h6]
        simp only
        split at h
        rotate_left
        · cases h
        rename_i h7
        rw [if_pos h7]
        split at h
        · split at h
          · rename_i h8
            simp only [Option.some.injEq, Prod.mk.injEq] at h
            obtain ⟨rfl, rfl⟩ := h
            rw [if_pos h8]
            refine ⟨_, rfl, put1 _ _ (by omega), put1 _ _ hn, ?_, ?_, ?_⟩
            · intro i hi
              simp only [Heap.get_put, Heap.get_new]
              split
              · rfl
              · rcases (hin i).1 hi with rfl | rfl
                · exact absurd rfl (by assumption)
                · exact hgid
            · intro i hi; rw [hin] at hi; simp [Heap.get_put, Heap.get_new]; omega
            · intro i hi; rw [hin] at hi; simp [Heap.get_put, Heap.get_new]; omega
          · cases h
        · split at h
          · rename_i h8
            simp only [Option.some.injEq, Prod.mk.injEq] at h
            obtain ⟨rfl, rfl⟩ := h
            rw [if_pos h8]
            have p0 : (H.put id none).size = H.size := rfl
            have p2 : (H2.put id none).size = H2.size := rfl
            refine ⟨_, rfl, by rw [put1 _ _ (by omega), p2], by rw [put1 _ _ (by omega), p0], ?_, ?_, ?_⟩
            · intro i hi
              simp only [Heap.get_put, Heap.get_new]
              split
              · rfl
              · split
                · rfl
                · rcases (hin i).1 hi with rfl | rfl
                  · exact absurd rfl (by assumption)
                  · exact hgid
            · intro i hi; rw [hin] at hi; simp only [Heap.get_put, Heap.get_new]; rw [if_neg (by omega), if_neg (by omega)]
            · intro i hi; rw [hin] at hi; simp only [Heap.get_put, Heap.get_new]; rw [if_neg (by omega), if_neg (by omega)]
          · cases h
    | _ => rw [hx] at h; simp at h
  | app0 n c z es b =>
    simp only [mstep] at h
    split at h
    · rename_i l q hl hq
      split at h
      · rename_i hc
        simp only [Option.some.injEq, Prod.mk.injEq] at h
        obtain ⟨rfl, rfl⟩ := h
        exact fresh _ rfl (by simp only [mstep, hl, hq, if_pos hc]) rfl (hn rfl)
      · cases h
    · cases h
  | mks n c z es b =>
    simp only [mstep] at h
    split at h
    · rename_i l q hl hq
      split at h
      · rename_i hc
        simp only [Option.some.injEq, Prod.mk.injEq] at h
        obtain ⟨rfl, rfl⟩ := h
        exact fresh _ rfl (by simp only [mstep, hl, hq, if_pos hc]) rfl (hn rfl)
      · cases h
    · cases h
  | bsl n es z ps =>
    simp only [mstep] at h
    split at h
    · rename_i cs hcs
      simp only [Option.some.injEq, Prod.mk.injEq] at h
      obtain ⟨rfl, rfl⟩ := h
      exact fresh _ rfl (by simp only [mstep, hcs]) rfl (hn rfl)
    · cases h
  | box x =>
    simp only [mstep] at h
    split at h
    · rename_i hc
      simp only [Option.some.injEq, Prod.mk.injEq] at h
      obtain ⟨rfl, rfl⟩ := h
      exact fresh _ rfl (by simp only [mstep, if_pos hc]) rfl (hn rfl)
    · cases h
  | new z =>
    simp only [mstep, Option.some.injEq, Prod.mk.injEq] at h
    obtain ⟨rfl, rfl⟩ := h
    exact fresh _ rfl (by simp only [mstep]) rfl (hn rfl)
  | call f as => simp [mstep] at h
  | callv f as => simp [mstep] at h
  | inv tab x as => simp [mstep] at h
  | _ =>
    refine (fun (k : _ ∧ _) => quiet k.1 k.2 rfl) ?_
    revert h
    simp only [mstep]
    (repeat' split) <;> intro h <;> first
      | (cases h; done)
      | exact ⟨(some_pair h).2, (by rw [(some_pair h).1])⟩
      | exact map_pair h

/-! ## laying effects in any order -/

section Mix
variable {Y : Type}

def ap : List (Nat × Y) → (Nat → Y) → Nat → Y
  | [], g => g
  | (x, y) :: u, g => ap u (fun z => if z = x then y else g z)

theorem ap_out {u : List (Nat × Y)} {g : Nat → Y} {x : Nat} (h : x ∉ u.map (·.1)) : ap u g x = g x := by
  induction u generalizing g with
  | nil => rfl
  | cons p u ih =>
    simp only [List.map_cons, List.mem_cons, not_or] at h
    simp only [ap]
    rw [ih h.2, if_neg h.1]

theorem ap_congr {u : List (Nat × Y)} {g g' : Nat → Y} {x : Nat} (h : x ∉ u.map (·.1) → g x = g' x) : ap u g x = ap u g' x := by
  induction u generalizing g g' with
  | nil => exact h (by simp)
  | cons p u ih =>
    simp only [ap]
    apply ih
    intro hx
    by_cases hp : x = p.1
    · simp [hp]
    · simp only [if_neg hp]; exact h (by simp [hp]; simpa using hx)

theorem ap_comm {u v : List (Nat × Y)} {g : Nat → Y} (h : ∀ x, x ∈ u.map (·.1) → x ∉ v.map (·.1)) : ap u (ap v g) = ap v (ap u g) := by
  funext x
  by_cases hu : x ∈ u.map (·.1)
  · rw [ap_out (u := v) (h x hu)]
    exact ap_congr fun h' => absurd hu h'
  · rw [ap_out (u := u) hu]
    exact ap_congr fun _ => (ap_out hu).symm

def mix (E : Nat → List (Nat × Y)) (S : Nat → Bool) (g : Nat → Y) : Nat → Nat → Y
  | 0 => g
  | n + 1 => if S n = true then ap (E n) (mix E S g n) else mix E S g n

theorem mix_congr {E : Nat → List (Nat × Y)} {S S' : Nat → Bool} {g : Nat → Y} {x : Nat} : ∀ {n : Nat}, (∀ k, k < n → S k ≠ S' k → x ∉ (E k).map (·.1)) → mix E S g n x = mix E S' g n x
  | 0, _ => rfl
  | n + 1, h => by
    have ih := mix_congr (n := n) (E := E) (S := S) (S' := S') (g := g) (x := x) fun k hk => h k (by omega)
    simp only [mix]
    by_cases he : S n = S' n
    · rw [← he]
      split
      · exact ap_congr fun _ => ih
      · exact ih
    · have hx := h n (by omega) he
      have e1 : ∀ T : Nat → Bool, (if T n = true then ap (E n) (mix E T g n) else mix E T g n) x = mix E T g n x := by
        intro T
        split
        · exact ap_out hx
        · rfl
      rw [e1, e1]; exact ih

theorem mix_insert {E : Nat → List (Nat × Y)} {S S' : Nat → Bool} {g : Nat → Y} {i : Nat} (hi : S i = false) (hi' : S' i = true) (hs : ∀ k, k ≠ i → S' k = S k) : ∀ {n : Nat}, i < n → (∀ k, i < k → k < n → S k = true → ∀ x, x ∈ (E k).map (·.1) → x ∉ (E i).map (·.1)) →
    mix E S' g n = ap (E i) (mix E S g n)
  | 0, h, _ => by omega
  | n + 1, h, hd => by
    have low : ∀ m, m ≤ i → mix E S' g m = mix E S g m := by
      intro m
      induction m with
      | zero => intro _; rfl
      | succ m ih => intro hm; simp only [mix]; rw [hs m (by omega), ih (by omega)]
    simp only [mix]
    by_cases hn : n = i
    · subst hn
      rw [hi', hi, low n (Nat.le_refl _)]
      simp
    · rw [hs n hn, mix_insert hi hi' hs (n := n) (by omega) (fun k h1 h2 => hd k h1 (by omega))]
      split
      · rename_i hS
        exact ap_comm (hd n (by omega) (by omega) hS)
      · rfl

theorem mix_all {E : Nat → List (Nat × Y)} {S : Nat → Bool} {g : Nat → Y} {F : Nat → Nat → Y} (h0 : F 0 = g) : ∀ {n : Nat}, (∀ k, k < n → S k = true) → (∀ k, k < n → F (k + 1) = ap (E k) (F k)) → mix E S g n = F n
  | 0, _, _ => h0.symm
  | n + 1, hS, hF => by
    simp only [mix]
    rw [if_pos (hS n (by omega)), mix_all h0 (fun k hk => hS k (by omega)) (fun k hk => hF k (by omega)), ← hF n (by omega)]

theorem mix_low {E : Nat → List (Nat × Y)} {g : Nat → Y} {i : Nat} : ∀ {n : Nat}, i ≤ n → mix E (fun k => decide (k < i)) g n = mix E (fun k => decide (k < i)) g i
  | 0, h => by have : i = 0 := by omega
               subst this; rfl
  | n + 1, h => by
    by_cases hn : i = n + 1
    · rw [hn]
    · simp only [mix]
      rw [if_neg (by simp; omega)]
      exact mix_low (by omega)
end Mix

end Go.Rx
