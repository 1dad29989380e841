/-
  RxI: how contracts are stated and proved.
-/
import Derived.Test.YtophpmdlgphihapRxM
namespace Go.Rx
set_option linter.unusedVariables false

structure HasCode (P : Program) (f : FuncId) (mc : MC) (rs : List RV) (N : Nat) : Prop where
  mx : P.follows .mixedOrders = true
  ex : ∃ fn c, P.funcs[f]? = some fn ∧ fn.body = some c ∧ cCode P fn.ntmps c = some mc ∧ cRV P fn.results.toList = some rs ∧ fn.ntmps = N ∧ (fn.name == "runtime.NumGoroutine") = false ∧ mc.plain = true

theorem HasCode.callable {P : Program} {f : FuncId} {mc : MC} {rs : List RV} {N : Nat} (h : HasCode P f mc rs N) : Callable P f := by
  obtain ⟨fn, c, h1, h2, _, _, _, h3, _⟩ := h.ex
  exact ⟨fn, h1, h3, by rw [h2]; rfl⟩

theorem HasCode.calls {P : Program} {f : FuncId} {mc : MC} {rs : List RV} {N : Nat} (h : HasCode P f mc rs N) {args : List AV} {H : Heap} {R : AV → Heap → Prop} (hn : args.length ≤ N) (hw : mwp P mc (retK rs R) ⟨init args, H⟩) : ACalls P f args H R := by
  obtain ⟨fn, c, h1, h2, h3, h4, h5, _, h6⟩ := h.ex
  exact acalls h.mx h1 h2 h3 h4 h6 (by omega) hw

/-- a function's code, entered as a deferred call -/
theorem HasCode.defers {P : Program} {f : FuncId} {mc : MC} {rs : List RV} {N : Nat} (h : HasCode P f mc rs N) {args : List AV} {H : Heap} {R : AV → Heap → Prop} (hn : args.length ≤ N) (hw : mwp P mc (retK rs R) ⟨init args, H⟩) : ADefers P f args H R := by
  obtain ⟨fn, c, h1, h2, h3, h4, h5, _, h6⟩ := h.ex
  exact adefers h.mx h1 h2 h3 h4 h6 (by omega) hw

/-- the code of a function that defers calls -/
structure HasCodeD (P : Program) (f : FuncId) (mc : MC) (rs : List RV) (N : Nat) : Prop where
  mx : P.follows .mixedOrders = true
  ex : ∃ fn c, P.funcs[f]? = some fn ∧ fn.body = some c ∧ cCode P fn.ntmps c = some mc ∧ cRV P fn.results.toList = some rs ∧ fn.ntmps = N ∧ (fn.name == "runtime.NumGoroutine") = false

theorem HasCodeD.callable {P : Program} {f : FuncId} {mc : MC} {rs : List RV} {N : Nat} (h : HasCodeD P f mc rs N) : Callable P f := by
  obtain ⟨fn, c, h1, h2, _, _, _, h3⟩ := h.ex
  exact ⟨fn, h1, h3, by rw [h2]; rfl⟩

theorem HasCodeD.calls {P : Program} {f : FuncId} {mc : MC} {rs : List RV} {N : Nat} (h : HasCodeD P f mc rs N) {args : List AV} {H : Heap} {R : AV → Heap → Prop} (hn : args.length ≤ N) (hw : mwp P mc (retD P N rs R) ⟨init args, H⟩) : ACalls P f args H R := by
  obtain ⟨fn, c, h1, h2, h3, h4, h5, _⟩ := h.ex
  subst h5
  exact acallsD h.mx h1 h2 h3 h4 hn hw

theorem ACalls.mono {P : Program} {f : FuncId} {args : List AV} {H : Heap} {R R' : AV → Heap → Prop} (h : ACalls P f args H R) (hr : ∀ r H', R r H' → R' r H') : ACalls P f args H R' :=
  fun ι w us h1 h2 => (h ι w us h1 h2).mono fun e w' ⟨r, u, H', ι', a1, a2, a3⟩ => ⟨r, u, H', ι', a1, hr _ _ a2, a3⟩

/-- a call met on the way -/
theorem mcall_intro {P : Program} {f : FuncId} {args : List AV} {d : Option Nat} {s : St} {M : St → (St → Prop) → Prop} {K : St → Prop} {R : AV → Heap → Prop} (hc : Callable P f) (h : ACalls P f args s.H R) (hk : ∀ r H', R r H' → M (St.put ⟨s.τ, H'⟩ d r) K) : mcall P f args d s M K :=
  ⟨hc, R, h, hk⟩

theorem mcond_bool {b : Bool} {A B : (Exit → St → Prop) → St → Prop} {Q : Exit → St → Prop} {s : St} (h1 : b = true → A Q s) (h2 : b = false → B Q s) : mcond (.bool b) A B Q s := ⟨h1, h2⟩

section
variable {P : Program} {Q : Exit → St → Prop} {s : St} {K : St → Prop} {M : St → (St → Prop) → Prop}
theorem mwp_skip : mwp P .skip Q s = Q .normal s := rfl
theorem mwp_reg {l : List MI} : mwp P (.reg l) Q s = mops P l s (Q .normal) := rfl
theorem mwp_drq {l : List MI} : mwp P (.drq l) Q s = mdrq P l Q s := rfl
theorem mwp_drw {l : List MI} {prs : List (Nat × Nat)} : mwp P (.drw l prs) Q s = mdrw P l prs Q s := rfl
theorem mwp_seq {a b : MC} : mwp P (.seq a b) Q s = mwp P a (seqK Q (mwp P b)) s := rfl
theorem mwp_cond {c : MX} {a b : MC} : mwp P (.cond c a b) Q s = mcond (c.ev s.τ) (mwp P a) (mwp P b) Q s := rfl
theorem mwp_block {id : Nat} {a : MC} : mwp P (.block id a) Q s = mwp P a (blockK id Q) s := rfl
theorem mwp_loop {a : MC} : mwp P (.loop a) Q s = mloop (mwp P a) Q s := rfl
theorem mwp_exit {id : Nat} : mwp P (.exit id) Q s = Q (.exit id) s := rfl
theorem mwp_ret : mwp P .ret Q s = Q .ret s := rfl
theorem mops_nil : mops P [] s K = K s := rfl
theorem mops_cons {i : MI} {r : List MI} : mops P (i :: r) s K = mone P i s (mops P r) K := rfl
end

/-- the two loops of a counter: what holds at the head, and a measure -/
theorem mloop_intro {W : (Exit → St → Prop) → St → Prop} {Q : Exit → St → Prop} {s : St} (I : St → Prop) (μ : St → Nat) (h0 : I s) (h : ∀ s', I s' → W (loopK I μ (μ s') Q) s') : mloop W Q s := ⟨I, μ, h0, h⟩

theorem drq_intro {P : Program} {l : List MI} {Q : Exit → St → Prop} {s : St} (Qt : FuncId → List AV → Option AV) (h1 : QtOk P Qt s.H) (h2 : qops P Qt l s (Q .normal)) : mdrq P l Q s := ⟨Qt, h1, h2⟩
theorem drq_plain {P : Program} {l : List MI} {Q : Exit → St → Prop} {s : St} (h2 : qops P (fun _ _ => none) l s (Q .normal)) : mdrq P l Q s := ⟨_, fun _ _ _ h => (by cases h), h2⟩

@[simp] theorem upd_at (τ : Nat → AV) (d : Nat) (v : AV) (i : Nat) : upd τ d v i = if i = d then v else τ i := rfl
@[simp] theorem init_nil (i : Nat) : init [] i = .tuple [] := by simp [init]
@[simp] theorem init_zero (a : AV) (l : List AV) : init (a :: l) 0 = a := by simp [init]
@[simp] theorem init_succ (a : AV) (l : List AV) (i : Nat) : init (a :: l) (i + 1) = init l i := by simp [init]

theorem isSlice_slice (id off n : Nat) (c : Option Nat) (es : Nat) : (AV.slice id off n c es).isSlice = true := rfl
theorem isSlice_nil : AV.nilSlice.isSlice = true := rfl
theorem len_slice (id off n : Nat) (c : Option Nat) (es : Nat) : (AV.slice id off n c es).len = n := rfl
theorem len_nil : AV.nilSlice.len = 0 := rfl
theorem es_slice (id off n : Nat) (c : Option Nat) (es : Nat) : (AV.slice id off n c es).es = some es := rfl
theorem elem_slice (id off n : Nat) (c : Option Nat) (es i : Nat) : (AV.slice id off n c es).elem i = .ptr id (off + i * es) := rfl

theorem wrap64_id {n : Int} (h1 : -9223372036854775808 ≤ n) (h2 : n ≤ 9223372036854775807) : IntKind.wrap .i64 n = n := by
  rw [IntKind.wrap_i64]; omega

end Go.Rx
