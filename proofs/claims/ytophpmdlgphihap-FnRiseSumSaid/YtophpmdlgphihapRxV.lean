/-
  RxV: code over symbolic states.
-/
import Derived.Test.YtophpmdlgphihapRxU
namespace Go.Rx
set_option linter.unusedVariables false
set_option linter.unusedSimpArgs false

structure GO (P : Program) (A : Heap) (X : List Nat) (E : List (Nat × AV)) (S : Sig) (l : List MI) (K : St → Prop) : Prop where
  g : ∀ s, Fit A X E S s → mops P l s K
structure GC (P : Program) (A : Heap) (X : List Nat) (E : List (Nat × AV)) (S : Sig) (c : MC) (Q : Exit → St → Prop) : Prop where
  g : ∀ s, Fit A X E S s → mwp P c Q s
structure GK (A : Heap) (X : List Nat) (E : List (Nat × AV)) (S : Sig) (K : St → Prop) : Prop where
  g : ∀ s, Fit A X E S s → K s
/-- operations of a region that draws its order quietly -/
structure GQ (P : Program) (Qt : FuncId → List AV → Option AV) (H0 : Heap) (A : Heap) (X : List Nat) (E : List (Nat × AV)) (S : Sig) (l : List MI) (K : St → Prop) : Prop where
  g : ∀ s, Fit A X E S s → s.H = H0 → qops P Qt l s K

theorem b_tf : (true = false) = False := by simp
theorem b_ft : (false = true) = False := by simp

section
variable {P : Program} {A : Heap} {X : List Nat} {E F : List (Nat × AV)} {S S' S0 : Sig} {Q : Exit → St → Prop} {K : St → Prop} {r : List MI} {d : Nat} {v w : AV}

theorem Fit.step {s : St} {op : MOp} {R : AV → Sig → Prop} (hf : Fit A X E S s) (h : Stp A X E S op R) : ∃ v S' H', R v S' ∧ mstep s.H.size s.τ s.H op = some (v, H') ∧ SOk A X S' H'.size H' := by
  obtain ⟨v, S', H', m', h1, h2, h3, h4, h5, h6⟩ := h.stp s.τ s.H s.H.size s.H.size hf.env hf.ok (Nat.le_refl _)
  exact ⟨v, S', H', h1, h2, h3.bump h3.mh (Nat.le_refl _)⟩

theorem mexec_plain' {op : MOp} {dst : Option Nat} {τ : Nat → AV} {H H' : Heap} {M : St → (St → Prop) → Prop} (hp : op.isCall = false) (he : mstep H.size τ H op = some (v, H')) (hk : M (St.put ⟨τ, H'⟩ dst v) K) : mexec P op dst ⟨τ, H⟩ M K := by
  cases op <;> simp only [MOp.isCall, Bool.true_eq_false] at hp <;> simp only [mexec, he] <;> exact hk

theorem go_nil (h : GK A X E S K) : GO P A X E S [] K := ⟨fun s hs => h.g s hs⟩
theorem go_step {op : MOp} {R : AV → Sig → Prop} (hs : Stp A X E S op R) (hp : op.isCall = false) (hk : ∀ v S', R v S' → GO P A X ((d, v) :: E) S' r K) : GO P A X E S (⟨some d, none, op⟩ :: r) K := by
  refine ⟨fun s hf => ?_⟩
  obtain ⟨v, S', H', h1, h2, h3⟩ := hf.step hs
  rw [mops_cons]
  exact mexec_plain' hp h2 ((hk v S' h1).g _ ⟨look_cons hf.env d v, h3⟩)
theorem go_step0 {op : MOp} {R : AV → Sig → Prop} (hs : Stp A X E S op R) (hp : op.isCall = false) (hk : ∀ v S', R v S' → GO P A X E S' r K) : GO P A X E S (⟨none, none, op⟩ :: r) K := by
  refine ⟨fun s hf => ?_⟩
  obtain ⟨v, S', H', h1, h2, h3⟩ := hf.step hs
  rw [mops_cons]
  exact mexec_plain' hp h2 ((hk v S' h1).g _ ⟨hf.env, h3⟩)
/-- the usual forms -/
theorem go_is {op : MOp} (hp : op.isCall = false) (hs : Stp A X E S op (Is v S')) (hk : GO P A X ((d, v) :: E) S' r K) : GO P A X E S (⟨some d, none, op⟩ :: r) K :=
  go_step hs hp fun a b h => by obtain ⟨rfl, rfl⟩ := h; exact hk
theorem go_is0 {op : MOp} (hp : op.isCall = false) (hs : Stp A X E S op (Is v S')) (hk : GO P A X E S' r K) : GO P A X E S (⟨none, none, op⟩ :: r) K :=
  go_step0 hs hp fun a b h => by obtain ⟨rfl, rfl⟩ := h; exact hk
theorem go_new {op : MOp} {N : AV → Sig} (hp : op.isCall = false) (hs : Stp A X E S op (New N)) (hk : ∀ v, GO P A X ((d, v) :: E) (N v) r K) : GO P A X E S (⟨some d, none, op⟩ :: r) K :=
  go_step hs hp fun a b h => by obtain rfl := h; exact hk a

/-- a guarded operation -/
theorem go_in {op : MOp} {t : Nat} {want b : Bool} {d : Option Nat} (hg : look E t = some (.bool b) := by exact rfl) (hb : (b = want) = True := by with_reducible exact eq_self _) (hk : GO P A X E S (⟨d, none, op⟩ :: r) K) : GO P A X E S (⟨d, some (t, want), op⟩ :: r) K := by
  refine ⟨fun s hf => ?_⟩
  have h := hk.g s hf
  rw [mops_cons] at h ⊢
  simp only [mone, hf.env _ _ hg] at h ⊢
  rw [if_pos (by rw [hb]; trivial)]; exact h
theorem go_out {op : MOp} {t : Nat} {want b : Bool} (hg : look E t = some (.bool b) := by exact rfl) (hb : (b = want) = False := by with_reducible (first | exact b_tf | exact b_ft)) (hk : GO P A X ((d, .tuple []) :: E) S r K) : GO P A X E S (⟨some d, some (t, want), op⟩ :: r) K := by
  refine ⟨fun s hf => ?_⟩
  rw [mops_cons]
  simp only [mone, hf.env _ _ hg]
  rw [if_neg (by rw [hb]; exact id)]
  exact hk.g _ ⟨look_cons hf.env d _, hf.ok⟩
theorem go_void {op : MOp} {t : Nat} {want : Bool} (hg : look E t = some (.tuple []) := by exact rfl) (hk : GO P A X ((d, .tuple []) :: E) S r K) : GO P A X E S (⟨some d, some (t, want), op⟩ :: r) K := by
  refine ⟨fun s hf => ?_⟩
  rw [mops_cons]
  simp only [mone, hf.env _ _ hg]
  exact hk.g _ ⟨look_cons hf.env d _, hf.ok⟩

theorem Fit.recall {s : St} (h : Fit A X E S s) {t : Nat} {v v' : AV} (ht : look E t = some v) (hv : v = v') : Fit A X ((t, v') :: E) S s := by
  refine ⟨fun i w hw => ?_, h.ok⟩
  subst hv
  have := look_cons h.env t v i w hw
  simp only [upd] at this
  split at this
  · rename_i hi; subst hi; rw [h.env _ _ ht]; exact this
  · exact this

/-- a test is told apart, for the guards behind it -/
theorem go_split (t : Nat) {p : Prop} [Decidable p] {l : List MI} (ht : look E t = some (.bool (decide p))) (h1 : p → GO P A X ((t, .bool true) :: E) S l K) (h2 : ¬ p → GO P A X ((t, .bool false) :: E) S l K) : GO P A X E S l K := by
  refine ⟨fun s hf => ?_⟩
  by_cases hp : p
  · exact (h1 hp).g s (hf.recall ht (by simp [hp]))
  · exact (h2 hp).g s (hf.recall ht (by simp [hp]))

/-- a value is written another way -/
theorem go_recall (t : Nat) (v' : AV) {l : List MI} {v : AV} (ht : look E t = some v) (hv : v = v') (h : GO P A X ((t, v') :: E) S l K) : GO P A X E S l K := ⟨fun s hf => h.g s (hf.recall ht hv)⟩
theorem gc_recall (t : Nat) (v' : AV) {c : MC} {v : AV} (ht : look E t = some v) (hv : v = v') (h : GC P A X ((t, v') :: E) S c Q) : GC P A X E S c Q := ⟨fun s hf => h.g s (hf.recall ht hv)⟩

/-- only some of it is kept -/
theorem go_keep (F : List (Nat × AV)) (S' : Sig) {l : List MI} (hc : Cov E F) (hs : Sub S S') (h : GO P A X F S' l K) : GO P A X E S l K := ⟨fun s hf => h.g s (hf.cov hc hs)⟩
theorem gc_keep (F : List (Nat × AV)) (S' : Sig) {c : MC} (hc : Cov E F) (hs : Sub S S') (h : GC P A X F S' c Q) : GC P A X E S c Q := ⟨fun s hf => h.g s (hf.cov hc hs)⟩
theorem gk_next {F : List (Nat × AV)} {S' : Sig} (h : GK A X F S' K) (hc : Cov E F := by (repeat (first | refine Cov.cons (by exact rfl) ?_ | refine Cov.consv (by exact rfl) (by congr 1; omega) ?_)); exact Cov.nil) (hs : Sub S S' := by (repeat (refine Sub.cons (by first | exact Sel.head | exact Sel.tail Sel.head | exact Sel.tail (Sel.tail Sel.head) | exact Sel.tail (Sel.tail (Sel.tail Sel.head)) | exact Sel.tail (Sel.tail (Sel.tail (Sel.tail Sel.head))) | exact Sel.tail (Sel.tail (Sel.tail (Sel.tail (Sel.tail Sel.head)))) | exact Sel.tail (Sel.tail (Sel.tail (Sel.tail (Sel.tail (Sel.tail Sel.head))))) | exact Sel.tail (Sel.tail (Sel.tail (Sel.tail (Sel.tail (Sel.tail (Sel.tail Sel.head)))))) | exact Sel.tail (Sel.tail (Sel.tail (Sel.tail (Sel.tail (Sel.tail (Sel.tail (Sel.tail Sel.head))))))) | exact Sel.tail (Sel.tail (Sel.tail (Sel.tail (Sel.tail (Sel.tail (Sel.tail (Sel.tail (Sel.tail Sel.head))))))))) ?_)); exact Sub.nil) : GK A X E S K := ⟨fun s hf => h.g s (hf.cov hc hs)⟩
theorem gk_keep (F : List (Nat × AV)) (S' : Sig) (hc : Cov E F) (hs : Sub S S') (h : GK A X F S' K) : GK A X E S K := ⟨fun s hf => h.g s (hf.cov hc hs)⟩

/-- a block of one's own is only read from now on -/
theorem go_freeze {l : List MI} {es n : Nat} {cs : List AV} (hs : Sel S ⟨.rw, v, es, n, cs⟩ S0) (h : GO P A X E (⟨.ro, v, es, n, cs⟩ :: S0) l K) : GO P A X E S l K :=
  ⟨fun s hf => h.g s ⟨hf.env, (hf.ok.sel hs).freeze⟩⟩
theorem gc_freeze {c : MC} {es n : Nat} {cs : List AV} (hs : Sel S ⟨.rw, v, es, n, cs⟩ S0) (h : GC P A X E (⟨.ro, v, es, n, cs⟩ :: S0) c Q) : GC P A X E S c Q :=
  ⟨fun s hf => h.g s ⟨hf.env, (hf.ok.sel hs).freeze⟩⟩

/-- a call that yields a value and leaves no trace -/
theorem go_call {f : FuncId} {args : List MX} {vs : List AV} (ha : evsE E args = some vs := by exact rfl) (hc : Callable P f) (h : ∀ H, SOk A X S H.size H → ACalls P f vs H fun r H' => r = v ∧ Le H H') (hk : GO P A X ((d, v) :: E) S r K) : GO P A X E S (⟨some d, none, .call f args⟩ :: r) K := by
  refine ⟨fun s hf => ?_⟩
  rw [mops_cons]
  have := h s.H hf.ok
  rw [← evs_of hf.env ha] at this
  refine ⟨hc, _, this, ?_⟩
  rintro v' H' ⟨rfl, hl⟩
  exact hk.g _ ⟨look_cons hf.env d _, hf.ok.same hl.get hl.size (Nat.le_refl _) hl.ob⟩

theorem SOk.fresh {H H' : Heap} {u : AV} {es n : Nat} {cs : List AV} (h : SOk A X S H.size H) (ho : Own H H' u es n cs) (hl : Le H H') : SOk A X (⟨.rw, u, es, n, cs⟩ :: S) H'.size H' := by
  have ham := h.am
  refine h.add hl.get hl.size (Nat.le_refl _) ⟨?_, ho.cells, ?_⟩ ho.bid_ge hl.ob
  · exact ho.vals.bid
  · rcases ho.is with h1 | ⟨id, h1, h2, h3, h4⟩
    · exact .inl h1
    · exact .inr ⟨id, h1, .inl (by omega), h4⟩

/-- a call that yields a new list -/
theorem go_calln {f : FuncId} {args : List MX} {vs : List AV} {es n : Nat} {cs : List AV} (ha : evsE E args = some vs := by exact rfl) (hc : Callable P f) (h : ∀ H, SOk A X S H.size H → ACalls P f vs H fun r H' => Own H H' r es n cs ∧ Le H H') (hk : ∀ u, GO P A X ((d, u) :: E) (⟨.rw, u, es, n, cs⟩ :: S) r K) : GO P A X E S (⟨some d, none, .call f args⟩ :: r) K := by
  refine ⟨fun s hf => ?_⟩
  rw [mops_cons]
  have := h s.H hf.ok
  rw [← evs_of hf.env ha] at this
  refine ⟨hc, _, this, ?_⟩
  rintro u H' ⟨ho, hl⟩
  exact (hk u).g _ ⟨look_cons hf.env d _, hf.ok.fresh ho hl⟩

/-- a call, whatever it does -/
theorem go_callg {f : FuncId} {args : List MX} {vs : List AV} {γ : Type} {V : γ → AV} {T : γ → Sig} {Φ : γ → Prop} (ha : evsE E args = some vs := by exact rfl) (hc : Callable P f)
    (h : ∀ H, SOk A X S H.size H → ACalls P f vs H fun r H' => ∃ g, r = V g ∧ SOk A X (T g) H'.size H' ∧ Φ g) (hk : ∀ g, Φ g → GO P A X ((d, V g) :: E) (T g) r K) : GO P A X E S (⟨some d, none, .call f args⟩ :: r) K := by
  refine ⟨fun s hf => ?_⟩
  rw [mops_cons]
  have := h s.H hf.ok
  rw [← evs_of hf.env ha] at this
  refine ⟨hc, _, this, ?_⟩
  rintro v' H' ⟨g, rfl, ho, hg⟩
  exact (hk g hg).g _ ⟨look_cons hf.env d _, ho⟩

/-- a method of an interface value is called -/
theorem go_inv {tab : List (TypeId × FuncId)} {x : MX} {args : List MX} {t : TypeId} {v : AV} {f : FuncId} (hx : evE E x = some (.iface t v) := by exact rfl) (hf : tabGet tab t = some f := by exact rfl) (h : GO P A X E S (⟨some d, none, .call f (.c v :: args)⟩ :: r) K) : GO P A X E S (⟨some d, none, .inv tab x args⟩ :: r) K := by
  refine ⟨fun s hs => ?_⟩
  have h1 := h.g s hs
  rw [mops_cons] at h1 ⊢
  simp only [mone, mexec, ev_of hs.env hx, hf] at h1 ⊢
  exact h1

/-- a method value of an interface value is called -/
theorem go_invv {fv : MX} {args : List MX} {name : String} {t : TypeId} {v : AV} {f : FuncId} (hx : evE E fv = some (.imeth name t v)) (hf : methOf P name t = some f) (h : GO P A X E S (⟨some d, none, .call f (.c v :: args)⟩ :: r) K) : GO P A X E S (⟨some d, none, .callv fv args⟩ :: r) K := by
  refine ⟨fun s hs => ?_⟩
  have h1 := h.g s hs
  rw [mops_cons] at h1 ⊢
  simp only [mone, mexec, ev_of hs.env hx, hf] at h1 ⊢
  exact h1

/-- a method value is called -/
theorem go_callb {f : FuncId} {fv : MX} {args : List MX} {x : AV} (hv : evE E fv = some (.bound f x)) (hk : ∀ s, Fit A X E S s → mcall P f (x :: args.map (·.ev s.τ)) (some d) s (mops P r) K) : GO P A X E S (⟨some d, none, .callv fv args⟩ :: r) K := by
  refine ⟨fun s hf => ?_⟩
  rw [mops_cons]
  simp only [mone, mexec, ev_of hf.env hv]
  exact hk s hf
theorem go_callbv {f : FuncId} {fv : MX} {args : List MX} {x : AV} {vs : List AV} (hv : evE E fv = some (.bound f x)) (ha : evsE E args = some vs := by exact rfl) (hc : Callable P f) (h : ∀ H, SOk A X S H.size H → ACalls P f (x :: vs) H fun r H' => r = v ∧ Le H H') (hk : GO P A X ((d, v) :: E) S r K) : GO P A X E S (⟨some d, none, .callv fv args⟩ :: r) K := by
  refine go_callb hv fun s hf => ?_
  have := h s.H hf.ok
  rw [← evs_of hf.env ha] at this
  refine ⟨hc, _, this, ?_⟩
  rintro v' H' ⟨rfl, hl⟩
  exact hk.g _ ⟨look_cons hf.env d _, hf.ok.same hl.get hl.size (Nat.le_refl _) hl.ob⟩

/-- a function value is called -/
theorem go_callv {f : FuncId} {fv : MX} {args : List MX} {cap : List AV} (hv : evE E fv = some (.func f cap)) (hk : ∀ s, Fit A X E S s → mcall P f (args.map (·.ev s.τ) ++ cap) (some d) s (mops P r) K) : GO P A X E S (⟨some d, none, .callv fv args⟩ :: r) K := by
  refine ⟨fun s hf => ?_⟩
  rw [mops_cons]
  simp only [mone, mexec, ev_of hf.env hv]
  exact hk s hf
theorem go_callvv {f : FuncId} {fv : MX} {args : List MX} {cap vs : List AV} (hv : evE E fv = some (.func f cap)) (ha : evsE E args = some vs := by exact rfl) (hc : Callable P f) (h : ∀ H, SOk A X S H.size H → ACalls P f (vs ++ cap) H fun r H' => r = v ∧ Le H H') (hk : GO P A X ((d, v) :: E) S r K) : GO P A X E S (⟨some d, none, .callv fv args⟩ :: r) K := by
  refine go_callv hv fun s hf => ?_
  have := h s.H hf.ok
  rw [← evs_of hf.env ha] at this
  refine ⟨hc, _, this, ?_⟩
  rintro v' H' ⟨rfl, hl⟩
  exact hk.g _ ⟨look_cons hf.env d _, hf.ok.same hl.get hl.size (Nat.le_refl _) hl.ob⟩

/- code -/
theorem gc_seq {a b : MC} (h : GC P A X E S a (seqK Q (mwp P b))) : GC P A X E S (.seq a b) Q := ⟨h.g⟩
theorem gc_skip (h : GK A X E S (Q .normal)) : GC P A X E S .skip Q := ⟨h.g⟩
theorem gc_reg {l : List MI} (h : GO P A X E S l (Q .normal)) : GC P A X E S (.reg l) Q := ⟨h.g⟩
theorem gc_block {id : Nat} {a : MC} (h : GC P A X E S a (blockK id Q)) : GC P A X E S (.block id a) Q := ⟨h.g⟩
theorem gc_exit {id : Nat} (h : GK A X E S (Q (.exit id))) : GC P A X E S (.exit id) Q := ⟨h.g⟩
theorem gc_ret (h : GK A X E S (Q .ret)) : GC P A X E S .ret Q := ⟨h.g⟩
theorem gc_cond {c : MX} {a b : MC} {p : Prop} [Decidable p] (hv : evE E c = some (.bool (decide p))) (h1 : p → GC P A X E S a Q) (h2 : ¬ p → GC P A X E S b Q) : GC P A X E S (.cond c a b) Q := by
  refine ⟨fun s hf => ?_⟩
  rw [mwp_cond, ev_of hf.env hv]
  exact mcond_dec (fun hp => (h1 hp).g s hf) (fun hp => (h2 hp).g s hf)
theorem gc_condb {c : MX} {a b : MC} {t : Bool} (hv : evE E c = some (.bool t)) (h1 : t = true → GC P A X E S a Q) (h2 : t = false → GC P A X E S b Q) : GC P A X E S (.cond c a b) Q := by
  refine ⟨fun s hf => ?_⟩
  rw [mwp_cond, ev_of hf.env hv]
  exact mcond_bool (fun hp => (h1 hp).g s hf) (fun hp => (h2 hp).g s hf)
theorem gc_yes {c : MX} {a b : MC} {t : Bool} (hv : evE E c = some (.bool t) := by exact rfl) (ht : t = true := by with_reducible rfl) (h1 : GC P A X E S a Q) : GC P A X E S (.cond c a b) Q := gc_condb hv (fun _ => h1) (fun h => by rw [h] at ht; cases ht)
theorem gc_no {c : MX} {a b : MC} {t : Bool} (hv : evE E c = some (.bool t) := by exact rfl) (ht : t = false := by with_reducible rfl) (h1 : GC P A X E S b Q) : GC P A X E S (.cond c a b) Q := gc_condb hv (fun h => by rw [h] at ht; cases ht) (fun _ => h1)

theorem gk_seq {b : MC} (h : GC P A X E S b Q) : GK A X E S (seqK Q (mwp P b) .normal) := ⟨h.g⟩
theorem gk_seqret {W : (Exit → St → Prop) → St → Prop} (h : GK A X E S (Q .ret)) : GK A X E S (seqK Q W .ret) := ⟨h.g⟩
theorem gk_seqexit {W : (Exit → St → Prop) → St → Prop} {id : Nat} (h : GK A X E S (Q (.exit id))) : GK A X E S (seqK Q W (.exit id)) := ⟨h.g⟩
theorem gk_block {id : Nat} (h : GK A X E S (Q .normal)) : GK A X E S (blockK id Q .normal) := ⟨h.g⟩
theorem gk_blockret {id : Nat} (h : GK A X E S (Q .ret)) : GK A X E S (blockK id Q .ret) := ⟨h.g⟩
theorem gk_out {id : Nat} (h : GK A X E S (Q .normal)) : GK A X E S (blockK id Q (.exit id)) := ⟨fun s hf => by simp only [blockK, if_true]; exact h.g s hf⟩
theorem gk_past {id id' : Nat} (hn : Nat.beq id' id = false := by exact rfl) (h : GK A X E S (Q (.exit id'))) : GK A X E S (blockK id Q (.exit id')) := ⟨fun s hf => by
  have : ¬ id' = id := by intro e; subst e; simp at hn
  simp only [blockK, if_neg this]; exact h.g s hf⟩
theorem gk_loopret {I : St → Prop} {μ : St → Nat} {m : Nat} (h : GK A X E S (Q .ret)) : GK A X E S (loopK I μ m Q .ret) := ⟨h.g⟩
theorem gk_loopexit {I : St → Prop} {μ : St → Nat} {m : Nat} {id : Nat} (h : GK A X E S (Q (.exit id))) : GK A X E S (loopK I μ m Q (.exit id)) := ⟨h.g⟩

/-- a loop: what holds at its head, by a ghost; EI, SI: slots and blocks; μ falls -/
theorem gc_loop {γ : Type} (EI : γ → List (Nat × AV)) (SI : γ → Sig) (Φ : γ → Prop) (μ : γ → Nat) (g0 : γ) {c : MC} (h0 : Φ g0) 
    (hE : Cov E (EI g0) := by (repeat (first | refine Cov.cons (by exact rfl) ?_ | refine Cov.consv (by exact rfl) (by congr 1; omega) ?_)); exact Cov.nil) (hS : Sub S (SI g0) := by (repeat (refine Sub.cons (by first | exact Sel.head | exact Sel.tail Sel.head | exact Sel.tail (Sel.tail Sel.head) | exact Sel.tail (Sel.tail (Sel.tail Sel.head)) | exact Sel.tail (Sel.tail (Sel.tail (Sel.tail Sel.head))) | exact Sel.tail (Sel.tail (Sel.tail (Sel.tail (Sel.tail Sel.head)))) | exact Sel.tail (Sel.tail (Sel.tail (Sel.tail (Sel.tail (Sel.tail Sel.head))))) | exact Sel.tail (Sel.tail (Sel.tail (Sel.tail (Sel.tail (Sel.tail (Sel.tail Sel.head)))))) | exact Sel.tail (Sel.tail (Sel.tail (Sel.tail (Sel.tail (Sel.tail (Sel.tail (Sel.tail Sel.head))))))) | exact Sel.tail (Sel.tail (Sel.tail (Sel.tail (Sel.tail (Sel.tail (Sel.tail (Sel.tail (Sel.tail Sel.head))))))))) ?_)); exact Sub.nil)
    (hb : ∀ g, Φ g → ∀ (I : St → Prop) (ν : St → Nat) (m : Nat), (∀ g', Φ g' → μ g' < μ g → GK A X (EI g') (SI g') (loopK I ν m Q .normal)) → GC P A X (EI g) (SI g) c (loopK I ν m Q)) : GC P A X E S (.loop c) Q := by
  refine ⟨fun s hf => ?_⟩
  rw [mwp_loop]
  refine mloop_down (fun j s => ∃ g, Φ g ∧ μ g = j ∧ Fit A X (EI g) (SI g) s) (μ g0) ⟨g0, h0, rfl, hf.cov hE hS⟩ ?_
  rintro j s' ⟨g, h1, h2, h3⟩ I ν m hn
  refine (hb g h1 I ν m (fun g' k1 k2 => ⟨fun s'' hf'' => ?_⟩)).g s' h3
  exact hn (μ g') s'' (by omega) ⟨g', k1, rfl, hf''⟩

/-- a loop that counts up -/
theorem gc_up (n : Nat) (EI : Nat → List (Nat × AV)) (SI : Nat → Sig) {c : MC} 
    (hE : Cov E (EI 0) := by (repeat (first | refine Cov.cons (by exact rfl) ?_ | refine Cov.consv (by exact rfl) (by congr 1; omega) ?_)); exact Cov.nil) (hS : Sub S (SI 0) := by (repeat (refine Sub.cons (by first | exact Sel.head | exact Sel.tail Sel.head | exact Sel.tail (Sel.tail Sel.head) | exact Sel.tail (Sel.tail (Sel.tail Sel.head)) | exact Sel.tail (Sel.tail (Sel.tail (Sel.tail Sel.head))) | exact Sel.tail (Sel.tail (Sel.tail (Sel.tail (Sel.tail Sel.head)))) | exact Sel.tail (Sel.tail (Sel.tail (Sel.tail (Sel.tail (Sel.tail Sel.head))))) | exact Sel.tail (Sel.tail (Sel.tail (Sel.tail (Sel.tail (Sel.tail (Sel.tail Sel.head)))))) | exact Sel.tail (Sel.tail (Sel.tail (Sel.tail (Sel.tail (Sel.tail (Sel.tail (Sel.tail Sel.head))))))) | exact Sel.tail (Sel.tail (Sel.tail (Sel.tail (Sel.tail (Sel.tail (Sel.tail (Sel.tail (Sel.tail Sel.head))))))))) ?_)); exact Sub.nil)
    (hb : ∀ i, i ≤ n → ∀ (I : St → Prop) (ν : St → Nat) (m : Nat), (i < n → GK A X (EI (i + 1)) (SI (i + 1)) (loopK I ν m Q .normal)) → GC P A X (EI i) (SI i) c (loopK I ν m Q)) : GC P A X E S (.loop c) Q := by
  refine gc_loop EI SI (fun i => i ≤ n) (fun i => n - i) 0 (Nat.zero_le _) hE hS ?_
  intro i hi I ν m hn
  exact hb i hi I ν m fun h => hn (i + 1) h (by omega)
/-- the same, with a slice that is laid anew -/
theorem gc_upv (n : Nat) (EI : Nat → AV → List (Nat × AV)) (SI : Nat → AV → Sig) (v0 : AV) {c : MC} 
    (hE : Cov E (EI 0 v0) := by (repeat (first | refine Cov.cons (by exact rfl) ?_ | refine Cov.consv (by exact rfl) (by congr 1; omega) ?_)); exact Cov.nil) (hS : Sub S (SI 0 v0) := by (repeat (refine Sub.cons (by first | exact Sel.head | exact Sel.tail Sel.head | exact Sel.tail (Sel.tail Sel.head) | exact Sel.tail (Sel.tail (Sel.tail Sel.head)) | exact Sel.tail (Sel.tail (Sel.tail (Sel.tail Sel.head))) | exact Sel.tail (Sel.tail (Sel.tail (Sel.tail (Sel.tail Sel.head)))) | exact Sel.tail (Sel.tail (Sel.tail (Sel.tail (Sel.tail (Sel.tail Sel.head))))) | exact Sel.tail (Sel.tail (Sel.tail (Sel.tail (Sel.tail (Sel.tail (Sel.tail Sel.head)))))) | exact Sel.tail (Sel.tail (Sel.tail (Sel.tail (Sel.tail (Sel.tail (Sel.tail (Sel.tail Sel.head))))))) | exact Sel.tail (Sel.tail (Sel.tail (Sel.tail (Sel.tail (Sel.tail (Sel.tail (Sel.tail (Sel.tail Sel.head))))))))) ?_)); exact Sub.nil)
    (hb : ∀ i v, i ≤ n → ∀ (I : St → Prop) (ν : St → Nat) (m : Nat), (i < n → ∀ v', GK A X (EI (i + 1) v') (SI (i + 1) v') (loopK I ν m Q .normal)) → GC P A X (EI i v) (SI i v) c (loopK I ν m Q)) : GC P A X E S (.loop c) Q := by
  refine gc_loop (γ := Nat × AV) (fun g => EI g.1 g.2) (fun g => SI g.1 g.2) (fun g => g.1 ≤ n) (fun g => n - g.1) (0, v0) (Nat.zero_le _) hE hS ?_
  intro g hi I ν m hn
  exact hb g.1 g.2 hi I ν m fun h v' => hn (g.1 + 1, v') h (by simp only; omega)

/- regions that draw their order -/
theorem gc_drq {l : List MI} (h : ∀ H0, GQ P (fun _ _ => none) H0 A X E S l (Q .normal)) : GC P A X E S (.drq l) Q := ⟨fun s hf => drq_plain ((h s.H).g s hf rfl)⟩
theorem gc_drqt {l : List MI} (Qt : Heap → FuncId → List AV → Option AV) (hq : ∀ H, SOk A X S H.size H → QtOk P (Qt H) H) (h : ∀ H, GQ P (Qt H) H A X E S l (Q .normal)) : GC P A X E S (.drq l) Q := ⟨fun s hf => drq_intro (Qt s.H) (hq s.H hf.ok) ((h s.H).g s hf rfl)⟩
theorem gq_nil {H0 : Heap} {Qt : FuncId → List AV → Option AV} (h : GK A X E S K) : GQ P Qt H0 A X E S [] K := ⟨fun s hs _ => h.g s hs⟩

theorem dstep_plain {P : Program} {Qt : FuncId → List AV → Option AV} {op : MOp} {d : Option Nat} {s : St} (hp : op.isCall = false) : dstep P Qt s.H.size ⟨d, none, op⟩ s = mstep s.H.size s.τ s.H op := by
  cases op <;> simp only [MOp.isCall, Bool.true_eq_false] at hp <;> rfl
theorem gq_is {H0 : Heap} {Qt : FuncId → List AV → Option AV} {op : MOp} (hq : (!op.isCall && !writes op) = true) (hs : Stp A X E S op (Is v S')) (hk : GQ P Qt H0 A X ((d, v) :: E) S' r K) : GQ P Qt H0 A X E S (⟨some d, none, op⟩ :: r) K := by
  obtain ⟨hp, hwr⟩ : op.isCall = false ∧ writes op = false := by simpa using hq
  refine ⟨fun s hf h0 => ?_⟩
  obtain ⟨v', S'', H', ⟨rfl, rfl⟩, h2, h3⟩ := hf.step hs
  have hd := dstep_plain (P := P) (Qt := Qt) (d := some d) (s := s) hp
  rw [h2] at hd
  have e := dstep_quiet hwr hd
  simp only [qops, hd]
  exact hk.g _ ⟨look_cons hf.env d _, h3⟩ (by rw [← h0]; exact e)
theorem gq_call {H0 : Heap} {Qt : FuncId → List AV → Option AV} {f : FuncId} {args : List MX} {vs : List AV} (ha : evsE E args = some vs := by exact rfl) (hq : SOk A X S H0.size H0 → Qt f vs = some v) (hk : GQ P Qt H0 A X ((d, v) :: E) S r K) : GQ P Qt H0 A X E S (⟨some d, none, .call f args⟩ :: r) K := by
  refine ⟨fun s hf h0 => ?_⟩
  have e : dstep P Qt s.H.size ⟨some d, none, .call f args⟩ s = some (v, s.H) := by
    simp only [dstep, gcheck, mcallee, evs_of hf.env ha, hq (h0 ▸ hf.ok)]
  simp only [qops, e]
  exact hk.g _ ⟨look_cons hf.env d _, hf.ok⟩ h0
theorem gq_inv {H0 : Heap} {Qt : FuncId → List AV → Option AV} {tab : List (TypeId × FuncId)} {x : MX} {args : List MX} {t : TypeId} {v : AV} {f : FuncId} (hx : evE E x = some (.iface t v) := by exact rfl) (hf : tabGet tab t = some f := by exact rfl) (h : GQ P Qt H0 A X E S (⟨some d, none, .call f (.c v :: args)⟩ :: r) K) : GQ P Qt H0 A X E S (⟨some d, none, .inv tab x args⟩ :: r) K := by
  refine ⟨fun s hs h0 => ?_⟩
  have h1 := h.g s hs h0
  have e : dstep P Qt s.H.size ⟨some d, none, .inv tab x args⟩ s = dstep P Qt s.H.size ⟨some d, none, .call f (.c v :: args)⟩ s := by
    simp only [dstep, gcheck, mcallee, ev_of hs.env hx, hf, Option.map_some]
    rfl
  simp only [qops] at h1 ⊢
  rw [e]; exact h1
theorem gq_invv {H0 : Heap} {Qt : FuncId → List AV → Option AV} {fv : MX} {args : List MX} {name : String} {t : TypeId} {v : AV} {f : FuncId} (hx : evE E fv = some (.imeth name t v)) (hf : methOf P name t = some f) (h : GQ P Qt H0 A X E S (⟨some d, none, .call f (.c v :: args)⟩ :: r) K) : GQ P Qt H0 A X E S (⟨some d, none, .callv fv args⟩ :: r) K := by
  refine ⟨fun s hs h0 => ?_⟩
  have h1 := h.g s hs h0
  have e : dstep P Qt s.H.size ⟨some d, none, .callv fv args⟩ s = dstep P Qt s.H.size ⟨some d, none, .call f (.c v :: args)⟩ s := by
    simp only [dstep, gcheck, mcallee, ev_of hs.env hx, hf, Option.map_some]
    rfl
  simp only [qops] at h1 ⊢
  rw [e]; exact h1
/-- function values are called in a region that draws -/
theorem gq_cv {H0 : Heap} {Qt : FuncId → List AV → Option AV} {fv : MX} {args : List MX} {f : FuncId} {cs vs : List AV} (hx : evE E fv = some (.func f cs)) (ha : evsE E args = some vs) (hq : SOk A X S H0.size H0 → Qt f (vs ++ cs) = some v) (hk : GQ P Qt H0 A X ((d, v) :: E) S r K) : GQ P Qt H0 A X E S (⟨some d, none, .callv fv args⟩ :: r) K := by
  refine ⟨fun s hf h0 => ?_⟩
  have e : dstep P Qt s.H.size ⟨some d, none, .callv fv args⟩ s = some (v, s.H) := by
    simp only [dstep, gcheck, mcallee, ev_of hf.env hx, evs_of hf.env ha, hq (h0 ▸ hf.ok)]
  simp only [qops, e]
  exact hk.g _ ⟨look_cons hf.env d _, hf.ok⟩ h0
theorem gq_in {H0 : Heap} {Qt : FuncId → List AV → Option AV} {op : MOp} {t : Nat} {want b : Bool} {d : Option Nat} (hg : look E t = some (.bool b) := by exact rfl) (hb : (b = want) = True := by with_reducible exact eq_self _) (hk : GQ P Qt H0 A X E S (⟨d, none, op⟩ :: r) K) : GQ P Qt H0 A X E S (⟨d, some (t, want), op⟩ :: r) K := by
  refine ⟨fun s hf h0 => ?_⟩
  have h := hk.g s hf h0
  have e : dstep P Qt s.H.size ⟨d, some (t, want), op⟩ s = dstep P Qt s.H.size ⟨d, none, op⟩ s := by
    simp only [dstep, gcheck, hf.env _ _ hg]
    have : decide (b = want) = true := by rw [decide_eq_true_eq, hb]; trivial
    rw [this]
  simp only [qops] at h ⊢
  rw [e]; exact h
theorem gq_out {H0 : Heap} {Qt : FuncId → List AV → Option AV} {op : MOp} {t : Nat} {want b : Bool} (hg : look E t = some (.bool b) := by exact rfl) (hb : (b = want) = False := by with_reducible (first | exact b_tf | exact b_ft)) (hk : GQ P Qt H0 A X ((d, .tuple []) :: E) S r K) : GQ P Qt H0 A X E S (⟨some d, some (t, want), op⟩ :: r) K := by
  refine ⟨fun s hf h0 => ?_⟩
  have e : dstep P Qt s.H.size ⟨some d, some (t, want), op⟩ s = some (.tuple [], s.H) := by
    simp only [dstep, gcheck, hf.env _ _ hg]
    have : decide (b = want) = false := by rw [decide_eq_false_iff_not, hb]; exact id
    rw [this]
  simp only [qops, e]
  exact hk.g _ ⟨look_cons hf.env d _, hf.ok⟩ h0
theorem gq_void {H0 : Heap} {Qt : FuncId → List AV → Option AV} {op : MOp} {t : Nat} {want : Bool} (hg : look E t = some (.tuple []) := by exact rfl) (hk : GQ P Qt H0 A X ((d, .tuple []) :: E) S r K) : GQ P Qt H0 A X E S (⟨some d, some (t, want), op⟩ :: r) K := by
  refine ⟨fun s hf h0 => ?_⟩
  have e : dstep P Qt s.H.size ⟨some d, some (t, want), op⟩ s = some (.tuple [], s.H) := by
    simp only [dstep, gcheck, hf.env _ _ hg]
  simp only [qops, e]
  exact hk.g _ ⟨look_cons hf.env d _, hf.ok⟩ h0
theorem gq_split {H0 : Heap} {Qt : FuncId → List AV → Option AV} (t : Nat) {p : Prop} [Decidable p] {l : List MI} (ht : look E t = some (.bool (decide p))) (h1 : p → GQ P Qt H0 A X ((t, .bool true) :: E) S l K) (h2 : ¬ p → GQ P Qt H0 A X ((t, .bool false) :: E) S l K) : GQ P Qt H0 A X E S l K := by
  refine ⟨fun s hf h0 => ?_⟩
  by_cases hp : p
  · exact (h1 hp).g s (hf.recall ht (by simp [hp])) h0
  · exact (h2 hp).g s (hf.recall ht (by simp [hp])) h0

/- the end -/
def rvE (E : List (Nat × AV)) : List RV → Option (List AV)
  | [] => some []
  | .t i :: r => match look E i, rvE E r with
    | some a, some l => some (a :: l)
    | _, _ => none
  | .c .. :: _ => none

theorem rvE_all {s : St} (h : EnvOk E s.τ) : ∀ {rs : List RV} {l : List AV}, rvE E rs = some l → RV.all s rs = some l
  | [], l, hl => by simpa [rvE, RV.all] using hl
  | .t i :: r, l, hl => by
    simp only [rvE] at hl
    split at hl
    · rename_i a b ha hb
      simp only [RV.all, RV.get, h _ _ ha, rvE_all h hb]; exact hl
    · cases hl
  | .c .. :: _, l, hl => by simp [rvE] at hl

theorem gk_ret {rs : List RV} {l : List AV} {R : AV → Heap → Prop} (hl : rvE E rs = some l) (h : ∀ H, SOk A X S H.size H → R (tupleOf l) H) : GK A X E S (retK rs R .ret) := by
  refine ⟨fun s hf => ?_⟩
  simp only [retK, rvE_all hf.env hl]
  exact h s.H hf.ok
theorem gk_retn {rs : List RV} {l : List AV} {R : AV → Heap → Prop} (hl : rvE E rs = some l) (h : ∀ H, SOk A X S H.size H → R (tupleOf l) H) : GK A X E S (retK rs R .normal) := by
  refine ⟨fun s hf => ?_⟩
  simp only [retK, rvE_all hf.env hl]
  exact h s.H hf.ok

/-- the start: arguments, and what is known of them -/
def argsE : Nat → List AV → List (Nat × AV)
  | _, [] => []
  | i, a :: r => (i, a) :: argsE (i + 1) r

theorem argsE_init : ∀ (args : List AV) (i : Nat) (j : Nat) (v : AV), look (argsE i args) j = some v → i ≤ j ∧ init args (j - i) = v
  | [], i, j, v, h => by simp [argsE, look] at h
  | a :: r, i, j, v, h => by
    simp only [argsE, look] at h
    cases hb : Nat.beq i j with
    | true =>
      rw [hb] at h
      simp only [cond_true, Option.some.injEq] at h
      have := Nat.eq_of_beq_eq_true hb
      subst this
      simp [h]
    | false =>
      rw [hb] at h
      obtain ⟨h1, h2⟩ := argsE_init r (i + 1) j v h
      refine ⟨by omega, ?_⟩
      have : j - i = (j - (i + 1)) + 1 := by omega
      rw [this, init_succ]; exact h2

/-- lists that are read -/
def RoAll (H : Heap) : Sig → Prop
  | [] => True
  | c :: r => (c.k = .ro ∧ Vals H c.v c.es c.n c.cs) ∧ RoAll H r

theorem RoAll.ok {H : Heap} : ∀ {S : Sig}, RoAll H S → (∀ c ∈ S, ChOk H [] H.size H c) ∧ S.Pairwise Apart ∧ ∀ c ∈ S, c.k.wr = false
  | [], _ => ⟨by simp, .nil, by simp⟩
  | c :: r, h => by
    obtain ⟨h1, h2, h3⟩ := RoAll.ok h.2
    obtain ⟨hk, hv⟩ := h.1
    refine ⟨fun d hd => ?_, ?_, fun d hd => ?_⟩
    · rcases List.mem_cons.1 hd with rfl | hd
      · refine ⟨hv.bid, ?_⟩
        rw [hk]; exact ⟨hv.sl, hv.len, hv.esn, hv.cells, hv.row⟩
      · exact h1 d hd
    · rw [List.pairwise_cons]
      refine ⟨fun d hd hw => ?_, h2⟩
      rcases hw with hw | hw
      · rw [hk] at hw; cases hw
      · rw [h3 d hd] at hw; cases hw
    · rcases List.mem_cons.1 hd with rfl | hd
      · rw [hk]; rfl
      · exact h3 d hd

theorem HasCode.go {f : FuncId} {mc : MC} {rs : List RV} {N : Nat} (h : HasCode P f mc rs N) {args : List AV} {H : Heap} {R : AV → Heap → Prop} (S : Sig) (hS : RoAll H S) (hn : args.length ≤ N) (hw : GC P H [] (argsE 0 args) S mc (retK rs R)) : ACalls P f args H R := by
  refine h.calls hn (hw.g _ ⟨fun i v hv => ?_, ?_⟩)
  · have := (argsE_init args 0 i v hv).2
    simpa using this
  · obtain ⟨h1, h2, _⟩ := hS.ok
    exact ⟨LeX.refl _ _, Nat.le_refl _, Nat.le_refl _, h1, h2⟩

theorem SOk.leE {H0 H : Heap} (h : SOk H0 [] S H.size H) : Le H0 H := h.le.toLe
/-- a list of one's own is handed over -/
theorem SOk.give {H0 H : Heap} {u : AV} {es n : Nat} {cs : List AV} (h : SOk H0 [] S H.size H) (hs : Sel S ⟨.rw, u, es, n, cs⟩ S0) : Own H0 H u es n cs ∧ Le H0 H := by
  have h' := h.sel hs
  obtain ⟨h1, h2, h3⟩ := h'.ch ⟨.rw, u, es, n, cs⟩ (by simp)
  refine ⟨⟨h2, ?_⟩, h.le.toLe⟩
  rcases h3 with h3 | ⟨id, h3, h4, h5⟩
  · exact .inl h3
  · simp only at h3 h1
    exact .inr ⟨id, h3, by simpa using h4, h1 id (by rw [h3]; rfl), h5⟩
end

/- deferred calls -/
section
variable {P : Program} {A : Heap} {X : List Nat} {E : List (Nat × AV)} {S S' : Sig} {Q : Exit → St → Prop} {K : St → Prop}
theorem gc_dfr {n : Nat} {l : List MI} {d : Option Nat} {fx : MX} {args : List MX} (h : GO P A X E S l (dfrK n d fx args (Q .normal))) : GC P A X E S (.dfr n l d fx args) Q := ⟨fun s hf => h.g s hf⟩
theorem gk_dfr {n : Nat} {fx : MX} {args : List MX} {f : FuncId} {cs vs : List AV} {o : AV} (hx : evE E fx = some (.func f cs)) (ha : evsE E args = some vs) (ho : look E n = some o) (hk : GK A X ((n, .dfl (.agg (.func f [] :: (vs ++ cs)) :: tupL o)) :: E) S K) : GK A X E S (dfrK n none fx args K) := by
  refine ⟨fun s hf => ?_⟩
  unfold dfrK
  rw [ev_of hf.env hx, evs_of hf.env ha, hf.env _ _ ho]
  exact hk.g _ ⟨look_cons hf.env n _, hf.ok⟩
theorem gk_dfrd {n d : Nat} {fx : MX} {args : List MX} {f : FuncId} {cs vs : List AV} {o : AV} (hx : evE E fx = some (.func f cs)) (ha : evsE E args = some vs) (ho : look E n = some o) (hk : GK A X ((d, .tuple []) :: (n, .dfl (.agg (.func f [] :: (vs ++ cs)) :: tupL o)) :: E) S K) : GK A X E S (dfrK n (some d) fx args K) := by
  refine ⟨fun s hf => ?_⟩
  unfold dfrK
  rw [ev_of hf.env hx, evs_of hf.env ha, hf.env _ _ ho]
  exact hk.g _ ⟨look_cons (look_cons hf.env n _) d _, hf.ok⟩
theorem gk_dfrb {n : Nat} {fx : MX} {args : List MX} {f : FuncId} {x : AV} {vs : List AV} {o : AV} (hx : evE E fx = some (.bound f x)) (ha : evsE E args = some vs) (ho : look E n = some o) (hk : GK A X ((n, .dfl (.agg (.func f [] :: x :: vs) :: tupL o)) :: E) S K) : GK A X E S (dfrK n none fx args K) := by
  refine ⟨fun s hf => ?_⟩
  unfold dfrK
  rw [ev_of hf.env hx, evs_of hf.env ha, hf.env _ _ ho]
  exact hk.g _ ⟨look_cons hf.env n _, hf.ok⟩
/-- a function leaves: its deferred calls, one by one -/
structure GLv (P : Program) (A : Heap) (X : List Nat) (E : List (Nat × AV)) (S : Sig) (dv : List AV) (K : St → Prop) : Prop where
  g : ∀ s, Fit A X E S s → mleave P (fun H' => K ⟨s.τ, H'⟩) dv s.H
theorem gl_nil (h : GK A X E S K) : GLv P A X E S [] K := ⟨fun s hf => h.g s hf⟩
theorem gl_call {f : FuncId} {avs dv : List AV} (hcb : Callable P f) (h : ∀ H, SOk A X S H.size H → ∃ R, ADefers P f avs H R ∧ ∀ r H', R r H' → SOk A X S' H'.size H') (hk : GLv P A X E S' dv K) : GLv P A X E S (.agg (.func f [] :: avs) :: dv) K := by
  refine ⟨fun s hf => ⟨f, avs, rfl, hcb, ?_⟩⟩
  obtain ⟨R, hR, hS⟩ := h s.H hf.ok
  exact ⟨R, hR, fun r H' hr => hk.g ⟨s.τ, H'⟩ ⟨hf.env, hS r H' hr⟩⟩
theorem gk_leave {N : Nat} {rs : List RV} {R : AV → Heap → Prop} {e : Exit} {dv : List AV} (he : e = .normal ∨ e = .ret) (hd : (look E N).map tupL = some dv) (h : GLv P A X E S dv (retK rs R e)) : GK A X E S (retD P N rs R e) := by
  refine ⟨fun s hf => ?_⟩
  have hh := h.g s hf
  cases ho : look E N with
  | none => rw [ho] at hd; cases hd
  | some o =>
    rw [ho] at hd; injection hd with hd; subst hd
    have e1 := hf.env _ _ ho
    rcases he with rfl | rfl
    · show mleave P _ (tupL (s.τ N)) s.H
      rw [e1]; exact hh
    · show mleave P _ (tupL (s.τ N)) s.H
      rw [e1]; exact hh
/-- its code: slot N, where its deferred calls are to be kept, holds none -/
theorem HasCodeD.go {f : FuncId} {mc : MC} {rs : List RV} {N : Nat} (h : HasCodeD P f mc rs N) {args : List AV} {H : Heap} {R : AV → Heap → Prop} (S : Sig) (hS : RoAll H S) (hn : args.length ≤ N) (hw : GC P H [] ((N, .tuple []) :: argsE 0 args) S mc (retD P N rs R)) : ACalls P f args H R := by
  refine h.calls hn (hw.g _ ⟨fun i v hv => ?_, ?_⟩)
  · simp only [look] at hv
    by_cases hi : N = i
    · subst hi
      have : Nat.beq N N = true := by simp
      rw [this] at hv
      simp only [cond_true, Option.some.injEq] at hv
      subst hv
      simp only [init]
      rw [List.getD, List.getElem?_eq_none (by omega)]; rfl
    · have : Nat.beq N i = false := by
        cases hb : Nat.beq N i with
        | true => exact absurd (Nat.eq_of_beq_eq_true hb) hi
        | false => rfl
      rw [this] at hv
      have := (argsE_init args 0 i v hv).2
      simpa using this
  · obtain ⟨h1, h2, _⟩ := hS.ok
    exact ⟨LeX.refl _ _, Nat.le_refl _, Nat.le_refl _, h1, h2⟩
/-- code that is entered as a deferred call -/
theorem HasCode.god {f : FuncId} {mc : MC} {rs : List RV} {N : Nat} (h : HasCode P f mc rs N) {args : List AV} {H : Heap} {R : AV → Heap → Prop} (S : Sig) (hS : RoAll H S) (hn : args.length ≤ N) (hw : GC P H [] (argsE 0 args) S mc (retK rs R)) : ADefers P f args H R := by
  refine h.defers hn (hw.g _ ⟨fun i v hv => ?_, ?_⟩)
  · have := (argsE_init args 0 i v hv).2
    simpa using this
  · obtain ⟨h1, h2, _⟩ := hS.ok
    exact ⟨LeX.refl _ _, Nat.le_refl _, Nat.le_refl _, h1, h2⟩
end
end Go.Rx
