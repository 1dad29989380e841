/-
  RxH: code: how it is taken up, what is to be shown of it, and that this is enough.
-/
import Derived.Test.YtophpmdlgphihapRx3
import Derived.CallsIn
import Derived.RangeFuncSeq
namespace Go.Rx
set_option linter.unusedVariables false
set_option linter.unusedSimpArgs false

structure MI where
  dst : Option Nat
  guard : Option (Nat × Bool)
  op : MOp

def dstOk (N : Nat) : Option Nat → Bool
  | some d => decide (d < N)
  | none => true

/-- one operation of a region, taken up -/
def cIdx (P : Program) (N : Nat) (ops : Array Oper) (i : Nat) : Option MI :=
  match ops[i]? with
  | none => none
  | some o =>
    match cOp P o with
    | none => none
    | some m =>
      if dstOk N o.dst = true then
        match o.guard with
        | none => some ⟨o.dst, none, m⟩
        | some (j, want) => match (ops[j]?).bind (·.dst) with
          | some t => if t < N then some ⟨o.dst, some (t, want), m⟩ else none
          | none => none
      else none

def cList (P : Program) (N : Nat) (ops : Array Oper) : List Nat → Option (List MI)
  | [] => some []
  | i :: r => match cIdx P N ops i, cList P N ops r with
    | some m, some l => some (m :: l)
    | _, _ => none

def Callable (P : Program) (f : FuncId) : Prop := ∃ fn, P.funcs[f]? = some fn ∧ (fn.name == "runtime.NumGoroutine") = false ∧ fn.body.isNone = false

/-- a call, in whatever memory: it returns a value of which R holds, with the heap behind it -/
def ACalls (P : Program) (f : FuncId) (args : List AV) (H : Heap) (R : AV → Heap → Prop) : Prop :=
  ∀ ι w (us : Array Value), HRel ι H w → VRelL ι args us.toList →
    Calls P f us w fun e w' => ∃ r u H' ι', e = .returned u ∧ R r H' ∧ VRel ι' r u ∧ HRel ι' H' w' ∧ HExt ι H w ι' H' w'

/-- a round of a range over a function, by its yield, in whatever memory -/
def AYield (P : Program) (id : Nat) (args : List AV) (H : Heap) (R : Bool → Heap → Prop) : Prop :=
  ∀ ι w (us : Array Value) q, HRel ι H w → VRelL ι args us.toList → ι id = some q →
    YieldAt Fence.wide 0 P q.row us w fun e w' => ∃ b H' ι', e = .returned (.bool b) ∧ R b H' ∧ HRel ι' H' w' ∧ HExt ι H w ι' H' w'

def mcall (P : Program) (f : FuncId) (args : List AV) (d : Option Nat) (s : St) (M : St → (St → Prop) → Prop) (K : St → Prop) : Prop :=
  Callable P f ∧ ∃ R, ACalls P f args s.H R ∧ ∀ r H', R r H' → M (St.put ⟨s.τ, H'⟩ d r) K

def mexec (P : Program) (op : MOp) (d : Option Nat) (s : St) (M : St → (St → Prop) → Prop) (K : St → Prop) : Prop :=
  match op with
  | .call f args => mcall P f (args.map (·.ev s.τ)) d s M K
  | .callv fv args => match fv.ev s.τ with
    | .func f cs => mcall P f (args.map (·.ev s.τ) ++ cs) d s M K
    | .bound f x => mcall P f (x :: args.map (·.ev s.τ)) d s M K
    | .imeth name t v => match methOf P name t with
      | some f => mcall P f (v :: args.map (·.ev s.τ)) d s M K
      | none => False
    | .yld id => ∃ R, AYield P id (args.map (·.ev s.τ)) s.H R ∧ ∀ b H', R b H' → M (St.put ⟨s.τ, H'⟩ d (.bool b)) K
    | _ => False
  | .inv tab x args => match x.ev s.τ with
    | .iface t v => match tabGet tab t with
      | some f => mcall P f (v :: args.map (·.ev s.τ)) d s M K
      | none => False
    | _ => False
  | .mq q => mmq s q fun v H' => M (St.put ⟨s.τ, H'⟩ d v) K
  | op => match mstep s.H.size s.τ s.H op with
    | some (v, H') => M (St.put ⟨s.τ, H'⟩ d v) K
    | none => False

def mone (P : Program) (i : MI) (s : St) (M : St → (St → Prop) → Prop) (K : St → Prop) : Prop :=
  match i.guard with
  | none => mexec P i.op i.dst s M K
  | some (t, want) => match s.τ t with
    | .bool b => if b = want then mexec P i.op i.dst s M K else M (s.put i.dst (.tuple [])) K
    | .tuple [] => M (s.put i.dst (.tuple [])) K
    | _ => False

def mops (P : Program) : List MI → St → (St → Prop) → Prop
  | [], s, K => K s
  | i :: r, s, K => mone P i s (mops P r) K

/-- where a function's frame began, and the slot in which its deferred calls are kept (none: it defers none) -/
structure Bs where
  b : Nat
  d : Option Nat

def tupL : AV → List AV
  | .dfl l => l
  | _ => []

def dvOf (B : Bs) (s : St) : List AV :=
  match B.d with
  | some n => tupL (s.τ n)
  | none => []

/-- a deferred call -/
def DRel (ι : Nat → Option Ref) (d : AV) (e : Deferred) : Prop :=
  ∃ f avs, ∃ us vs : Array Value, d = .agg (.func f [] :: avs) ∧ e = { target := .fn (.func f) vs, args := us } ∧ VRelL ι avs (us ++ vs).toList

/-- what is deferred: calls, and blocks for the deferred calls of rounds, laid since the heap's size was b; no call has come into them -/
def Marks (ι : Nat → Option Ref) (b : Nat) (w : World) : List AV → List Deferred → Prop
  | dv, [] => dv = [] ∧ b ≤ w.heap.size
  | dv, d :: l => ((∃ r, d = { target := .collected r, args := #[] } ∧ b ≤ r ∧ w.heap[r]? = some (.deferred (some [])) ∧ ∀ e ∈ l, e.target ≠ .collected r) ∧ Marks ι b w dv l) ∨
      (∃ x dv', dv = x :: dv' ∧ DRel ι x d ∧ Marks ι b w dv' l)

theorem Marks.ext {b : Nat} {ι ι' : Nat → Option Ref} {H H' : Heap} {w w' : World} (hH : HRel ι H w) (hE : HExt ι H w ι' H' w') : ∀ {l : List Deferred} {dv : List AV}, Marks ι b w dv l → Marks ι' b w' dv l
  | [], dv, h => ⟨h.1, Nat.le_trans h.2 hE.wsize⟩
  | d :: l, dv, .inr ⟨x, dv', h1, ⟨f, avs, us, vs, e1, e2, e3⟩, h3⟩ => .inr ⟨x, dv', h1, ⟨f, avs, us, vs, e1, e2, VRelL.mono hE.le _ _ e3⟩, Marks.ext hH hE h3⟩
  | d :: l, dv, .inl ⟨⟨r, h1, h2, h3, h4⟩, h5⟩ => by
    refine .inl ⟨⟨r, h1, h2, ?_, h4⟩, Marks.ext hH hE h5⟩
    rw [hE.rows r (Array.getElem?_eq_some_iff.1 h3).1 ?_ ?_]
    · exact h3
    · intro id b q g1 g2 g3 g4
      obtain ⟨q', k1, k2⟩ := hH.blk id b g1
      rw [g3] at k1; injection k1 with k1; subst k1
      unfold BlkRel at k2; rw [g2] at k2
      obtain ⟨c, e, k3, _⟩ := k2
      rw [g4, h3] at k3; cases k3
    · intro id o q g1 g3 g4
      obtain ⟨q', k1, k2⟩ := hH.obs id o g1
      rw [g3] at k1; injection k1 with k1; subst k1
      obtain ⟨x, m1, m2⟩ := k2.row
      rw [g4, h3] at m1; cases m1; cases m2

theorem Marks.drew {ι : Nat → Option Ref} {b : Nat} {w : World} {n : Nat} : ∀ {l : List Deferred} {dv : List AV}, Marks ι b w dv l → Marks ι b { w with drawn := w.drawn + n } dv l
  | [], _, h => h
  | _ :: _, _, .inl h => .inl ⟨h.1, Marks.drew h.2⟩
  | _ :: _, _, .inr ⟨x, dv', h1, h2, h3⟩ => .inr ⟨x, dv', h1, h2, Marks.drew h3⟩

theorem Marks.le {ι : Nat → Option Ref} {b : Nat} {w : World} : ∀ {l : List Deferred} {dv : List AV}, Marks ι b w dv l → b ≤ w.heap.size
  | [], _, h => h.2
  | _ :: _, _, .inl h => Marks.le h.2
  | _ :: _, _, .inr ⟨_, _, _, _, h⟩ => Marks.le h

/-- the fence of a function, and that of a round -/
def fR (ro : Option Nat) : Fence := { Fence.wide with round := ro }

theorem callsR {ro : Option Nat} {n : Nat} {P : Program} {f : FuncId} {args : Array Value} {w : World} {R : Ending → World → Prop} (h : Calls P f args w R) : CallsIn (fR ro) n P f args w R :=
  ⟨trivial, fun cs _ => (callsIn_wide (n := n).2 h).2 cs (room_wide _)⟩

theorem cOp_nodefer {P : Program} {o : Oper} {m : MOp} (h : cOp P o = some m) : ∀ c, o.op ≠ .defer c := by
  intro c hc
  simp [cOp, hc, cMq] at h

structure Rel (B : Bs) (N : Nat) (s : St) (ι : Nat → Option Ref) (a : Act) (w : World) : Prop where
  defers : Marks ι B.b w (dvOf B s) a.defers
  big : ∀ n, B.d = some n → N ≤ n
  size : a.tmps.size = N
  tmps : TRel ι s.τ a.tmps
  heap : HRel ι s.H w

theorem dvOf_put {B : Bs} {N : Nat} {τ : Nat → AV} {H H' : Heap} {v : AV} {d : Option Nat} (hb : ∀ n, B.d = some n → N ≤ n) (hd : ∀ t, d = some t → t < N) : dvOf B (St.put ⟨τ, H'⟩ d v) = dvOf B ⟨τ, H⟩ := by
  unfold dvOf
  cases hB : B.d with
  | none => rfl
  | some n =>
    cases d with
    | none => rfl
    | some t =>
      have h1 := hb n hB
      have h2 := hd t rfl
      simp only [St.put, upd]
      rw [if_neg (by omega)]

theorem Rel.put {B : Bs} {N : Nat} {s : St} {ι ι' : Nat → Option Ref} {a : Act} {w w' : World} {H' : Heap} (h : Rel B N s ι a w) (hE : HExt ι s.H w ι' H' w') {v : AV} {u : Value} (hv : VRel ι' v u) (hH : HRel ι' H' w') {d : Option Nat} (hd : ∀ t, d = some t → t < N) :
    Rel B N (St.put ⟨s.τ, H'⟩ d v) ι' (a.put d u) w' := by
  have hle := hE.le
  have hM : Marks ι' B.b w' (dvOf B (St.put ⟨s.τ, H'⟩ d v)) a.defers := by
    rw [dvOf_put (H := s.H) h.big hd]
    exact Marks.ext h.heap hE h.defers
  cases d with
  | none => exact ⟨hM, h.big, h.size, h.tmps.mono hle, hH⟩
  | some t =>
    have hlt := hd t rfl
    refine ⟨hM, h.big, by simp [Act.put, h.size], ?_, hH⟩
    intro i
    simp only [St.put, upd, Act.put]
    by_cases hi : i = t
    · subst hi
      have : i < a.tmps.size := by rw [h.size]; exact hlt
      simp only [if_true]
      rw [Array.getD_eq_getD_getElem?, Array.getElem?_setIfInBounds_self_of_lt this]
      exact hv
    · rw [if_neg hi]
      have h1 := h.tmps.mono hle i
      rw [Array.getD_eq_getD_getElem?] at h1 ⊢
      rw [Array.getElem?_setIfInBounds_ne (Ne.symm hi)]
      exact h1

theorem undef_rel (ι : Nat → Option Ref) : VRel ι (.tuple []) undef := by simp [VRel, VRelL, undef]

theorem run_callFunc {P : Program} {f : FuncId} (h : Callable P f) (args : Array Value) (w : World) : (callFunc f args).run P w = .ok (.enter f args) w := by
  obtain ⟨fn, h1, h2, h3⟩ := h
  have h2' : ¬ fn.name = "runtime.NumGoroutine" := by simpa using h2
  have h3' : ¬ fn.body = none := by intro hb; rw [hb] at h3; simp at h3
  simp [callFunc, h1, h2', h3']

/-- the call's operation -/
theorem run_call {P : Program} {o : Oper} {a : Act} {c : Call} {x : Operand} {f : FuncId} {caps : Array Value} (ho : o.op = .call c) (hc : c.callee = .value x) (hx : a.eval x = .func (.func f) #[] caps) (h : Callable P f) (w : World) :
    (execOp a.eval o).run P w = .ok (.enter f (c.args.map a.eval ++ caps)) w := by
  simp [execOp, ho, hc, resolve, Deferred.ofValue, hx, invoke, run_callFunc h]

/-- the call of a method value -/
theorem run_callb {P : Program} {o : Oper} {a : Act} {c : Call} {x : Operand} {f : FuncId} {y : Value} (ho : o.op = .call c) (hc : c.callee = .value x) (hx : a.eval x = .func (.func f) #[y] #[]) (h : Callable P f) (w : World) :
    (execOp a.eval o).run P w = .ok (.enter f (#[y] ++ c.args.map a.eval)) w := by
  simp [execOp, ho, hc, resolve, Deferred.ofValue, hx, invoke, run_callFunc h]

theorem methTab_get {P : Program} {name : String} {t : TypeId} {f : FuncId} (h0 : tabGet (methTab P name) t = some f) : methOf P name t = some f := by
  have key : ∀ l : List TypeId, tabGet (l.filterMap fun t => (methOf P name t).map (t, ·)) t = some f → methOf P name t = some f := by
    intro l
    induction l with
    | nil => intro h; simp [tabGet] at h
    | cons u l ih =>
      intro h
      rw [List.filterMap_cons] at h
      cases hm : methOf P name u with
      | none => rw [hm] at h; exact ih h
      | some g =>
        rw [hm] at h
        simp only [Option.map_some, tabGet] at h
        split at h
        · rename_i e; subst e; exact hm.trans h
        · exact ih h
  exact key _ h0

theorem run_method {P : Program} {name : String} {t : TypeId} {f : FuncId} (h : methOf P name t = some f) (v : Value) (n : Nat) (w : World) : (method (n + 1) t v name).run P w = .ok (f, v) w := by
  unfold methOf at h
  split at h
  rotate_left
  · cases h
  rename_i i d hi hd
  split at h
  rotate_left
  · cases h
  rename_i m hm
  split at h
  rotate_left
  · cases h
  rename_i hp
  have hp' : m.path = #[] := by simpa using hp
  split at h
  rotate_left
  · cases h
  rename_i g b hfu
  split at h
  rotate_left
  · cases h
  rename_i hb
  simp only [Option.some.injEq] at h; subst h
  subst hb
  cases d <;> simp [method, typeInfo, hi, hm, hp', follow, hfu, receiverAt, run_underlying hd, Place.get, isPtr]

/-- the call of a method of an interface value -/
theorem run_inv {P : Program} {o : Oper} {a : Act} {c : Call} {x : Operand} {name : String} {t : TypeId} {v : Value} {f : FuncId} (ho : o.op = .call c) (hc : c.callee = .invoke x name) (hx : a.eval x = .iface t v) (hf : tabGet (methTab P name) t = some f) (h : Callable P f) (w : World) :
    (execOp a.eval o).run P w = .ok (.enter f (#[v] ++ c.args.map a.eval)) w := by
  have h1 := run_method (methTab_get hf) v (P.types.size + (Made.depth - 1)) w
  have hpos : 0 < Made.depth := by decide
  have hd : P.types.size + (Made.depth - 1) + 1 = P.types.size + Made.depth := by omega
  rw [hd] at h1
  have e0 : (#[Value.iface t v] ++ c.args.map a.eval)[0]? = some (.iface t v) := by simp [Array.getElem?_append]
  have e1 : (#[Value.iface t v] ++ c.args.map a.eval).extract 1 (#[Value.iface t v] ++ c.args.map a.eval).size = c.args.map a.eval := by simp
  simp only [execOp, ho, resolve, hc, hx, Sem.run_bind, Sem.run_pure, Result.andThen_ok, invoke, e0, e1, callMethod, run_program]
  simp [h1, run_callFunc h]

/-- the call of a method value of an interface value -/
theorem run_invv {P : Program} {o : Oper} {a : Act} {c : Call} {x : Operand} {name : String} {t : TypeId} {v : Value} {f : FuncId} (ho : o.op = .call c) (hc : c.callee = .value x) (hx : a.eval x = .func (.method name) #[.iface t v] #[]) (hf : methOf P name t = some f) (h : Callable P f) (w : World) :
    (execOp a.eval o).run P w = .ok (.enter f (#[v] ++ c.args.map a.eval)) w := by
  have h1 := run_method hf v (P.types.size + (Made.depth - 1)) w
  have hpos : 0 < Made.depth := by decide
  have hd : P.types.size + (Made.depth - 1) + 1 = P.types.size + Made.depth := by omega
  rw [hd] at h1
  have e0 : (#[Value.iface t v] ++ c.args.map a.eval)[0]? = some (.iface t v) := by simp [Array.getElem?_append]
  have e1 : (#[Value.iface t v] ++ c.args.map a.eval).extract 1 (#[Value.iface t v] ++ c.args.map a.eval).size = c.args.map a.eval := by simp
  simp only [execOp, ho, resolve, hc, hx, Deferred.ofValue, Sem.run_bind, Sem.run_pure, Result.andThen_ok, invoke, e0, e1, callMethod, run_program]
  simp [h1, run_callFunc h]

/-- the call of a yield -/
theorem run_yieldv {P : Program} {o : Oper} {a : Act} {c : Call} {x : Operand} {l : Nat} (ho : o.op = .call c) (hc : c.callee = .value x) (hx : a.eval x = .func (.yield l) #[] #[]) (w : World) :
    (execOp a.eval o).run P w = (Instr.yield l (c.args.map a.eval)).run P w := by
  simp [execOp, ho, hc, resolve, Deferred.ofValue, hx, invoke]

/-- what is left behind operations -/
def Post (B : Bs) (N : Nat) (s0 : St) (ι0 : Nat → Option Ref) (w0 : World) (Q : Exit → St → Prop) (e : Exit) (a : Act) (w : World) : Prop :=
  ∃ s ι, Q e s ∧ Rel B N s ι a w ∧ HExt ι0 s0.H w0 ι s.H w

theorem cOp_isCall {P : Program} {o : Oper} {m : MOp} (h : cOp P o = some m) (hm : m.isCall = true) (hq : ∀ q, m ≠ .mq q) :
    ∃ c x l, o.op = .call c ∧ cXs c.args.toList = some l ∧ ((∃ f, c.callee = .value x ∧ x = .func f ∧ m = .call f l) ∨ (∃ mx, c.callee = .value x ∧ cX x = some mx ∧ m = .callv mx l) ∨ ∃ mx name, c.callee = .invoke x name ∧ cX x = some mx ∧ m = .inv (methTab P name) mx l) := by
  cases ho : o.op with
  | call c =>
    simp only [cOp, ho] at h
    split at h
    all_goals first
      | (exfalso; (repeat' split at h); all_goals (first | (cases h; done) | (cases h; simp [MOp.isCall] at hm; done) | (rw [Option.map_eq_some_iff] at h; obtain ⟨_, _, rfl⟩ := h; simp [MOp.isCall] at hm; done) | (rw [Option.map_eq_some_iff] at h; obtain ⟨_, _, rfl⟩ := h; exact hq _ rfl)); done)
      | skip
    · rename_i x name hc
      split at h
      · rename_i mx l hx hl
        simp only [Option.some.injEq] at h; subst h
        exact ⟨c, x, l, rfl, hl, .inr (.inr ⟨mx, name, hc, hx, rfl⟩)⟩
      · cases h
    · rename_i f hc
      simp only [Option.map_eq_some_iff] at h
      obtain ⟨l, hl, rfl⟩ := h
      exact ⟨c, _, l, rfl, hl, .inl ⟨f, hc, rfl, rfl⟩⟩
    · rename_i x _ hc
      split at h
      · rename_i mx l hx hl
        simp only [Option.some.injEq] at h; subst h
        exact ⟨c, _, l, rfl, hl, .inr (.inl ⟨mx, hc, hx, rfl⟩)⟩
      · cases h
  | makeFunc f first cs =>
    exfalso
    simp only [cOp, ho] at h
    cases f <;> simp only [reduceCtorEq] at h
    rotate_left
    · split at h
      · split at h
        · simp only [Option.map_eq_some_iff] at h
          obtain ⟨l, hl, rfl⟩ := h
          simp [MOp.isCall] at hm
        · cases h
      · cases h
    split at h
    · simp only [Option.map_eq_some_iff] at h
      obtain ⟨l, hl, rfl⟩ := h
      simp [MOp.isCall] at hm
    · split at h
      · simp only [Option.map_eq_some_iff] at h
        obtain ⟨l, hl, rfl⟩ := h
        simp [MOp.isCall] at hm
      · cases h
    · cases h
  | _ =>
    exfalso
    simp only [cOp, ho, Option.map_eq_some_iff, reduceCtorEq] at h
    first
      | (obtain ⟨l, hl, rfl⟩ := h; simp [MOp.isCall] at hm; done)
      | (obtain ⟨l, hl, rfl⟩ := h; exact hq _ rfl)
      | (repeat' split at h
         all_goals first
           | (simp only [Option.map_eq_some_iff] at h; obtain ⟨l, hl, rfl⟩ := h; simp [MOp.isCall] at hm; done)
           | (cases h <;> simp [MOp.isCall] at hm))

/-- a value that is called -/
theorem call_rel {P : Program} {B : Bs} {N : Nat} {o : Oper} {m : MOp} (hc : cOp P o = some m) (hm : m.isCall = true) {s : St} {M : St → (St → Prop) → Prop} {K : St → Prop} {d : Option Nat} (h : mexec P m d s M K) {ι : Nat → Option Ref} {a : Act} {w : World} (hr : Rel B N s ι a w) (hny : ∀ fv l id, m = .callv fv l → fv.ev s.τ ≠ .yld id) (hq : ∀ q, m ≠ .mq q) :
    ∃ f args us, (execOp a.eval o).run P w = .ok (.enter f us) w ∧ VRelL ι args us.toList ∧ ∃ R, ACalls P f args s.H R ∧ ∀ r H', R r H' → M (St.put ⟨s.τ, H'⟩ d r) K := by
  obtain ⟨c, x, l, ho, hl, hor⟩ := cOp_isCall hc hm hq
  have e1 := evs_rel hr.tmps hl
  rcases hor with ⟨f, hcal, rfl, rfl⟩ | ⟨mx, hcal, hx, rfl⟩ | ⟨mx, name, hcal, hx, rfl⟩
  · obtain ⟨hcb, R, hR, hk⟩ := h
    refine ⟨f, _, _, run_call (caps := #[]) ho hcal rfl hcb w, ?_, R, hR, hk⟩
    simpa using e1
  · simp only [mexec] at h
    split at h
    · rename_i f cs hf
      obtain ⟨hcb, R, hR, hk⟩ := h
      have e2 := ev_rel hr.tmps hx
      rw [hf] at e2
      simp only [VRel] at e2
      obtain ⟨vs, hv, hvs⟩ := e2
      refine ⟨f, _, _, run_call (caps := vs) ho hcal hv hcb w, ?_, R, hR, hk⟩
      simpa using e1.append hvs
    · rename_i f y hf
      obtain ⟨hcb, R, hR, hk⟩ := h
      have e2 := ev_rel hr.tmps hx
      rw [hf] at e2
      simp only [VRel] at e2
      obtain ⟨v, hv, hvs⟩ := e2
      refine ⟨f, _, _, run_callb ho hcal hv hcb w, ?_, R, hR, hk⟩
      simp only [Array.toList_append, List.singleton_append, VRelL]
      exact ⟨v, _, rfl, hvs, by simpa using e1⟩
    · rename_i name t y hf
      split at h
      · rename_i f hg
        obtain ⟨hcb, R, hR, hk⟩ := h
        have e2 := ev_rel hr.tmps hx
        rw [hf] at e2
        simp only [VRel] at e2
        obtain ⟨v, hv, hvs⟩ := e2
        refine ⟨f, _, _, run_invv ho hcal hv hg hcb w, ?_, R, hR, hk⟩
        simp only [Array.toList_append, List.singleton_append, VRelL]
        exact ⟨v, _, rfl, hvs, by simpa using e1⟩
      · exact h.elim
    · rename_i id hid
      exact absurd hid (hny _ _ id rfl)
    · exact h.elim
  · simp only [mexec] at h
    split at h
    · rename_i t y hf
      split at h
      · rename_i f hg
        obtain ⟨hcb, R, hR, hk⟩ := h
        have e2 := ev_rel hr.tmps hx
        rw [hf] at e2
        simp only [VRel] at e2
        obtain ⟨v, hv, hvs⟩ := e2
        refine ⟨f, _, _, run_inv ho hcal hv hg hcb w, ?_, R, hR, hk⟩
        simp only [Array.toList_append, List.singleton_append, VRelL]
        exact ⟨v, _, rfl, hvs, by simpa using e1⟩
      · exact h.elim
    · exact h.elim

/-- a yield that is called -/
theorem yield_rel {P : Program} {B : Bs} {N : Nat} {o : Oper} {fv : MX} {l : List MX} {id : Nat} (hc : cOp P o = some (.callv fv l)) {s : St} (hv : fv.ev s.τ = .yld id) {ι : Nat → Option Ref} {a : Act} {w : World} (hr : Rel B N s ι a w) :
    ∃ q us, ι id = some q ∧ (execOp a.eval o).run P w = (Instr.yield q.row us).run P w ∧ VRelL ι (l.map (·.ev s.τ)) us.toList := by
  obtain ⟨c, x, l', ho, hl, hor⟩ := cOp_isCall hc rfl (fun q h => (by cases h))
  have e1 := evs_rel hr.tmps hl
  rcases hor with ⟨f, hcal, rfl, hm⟩ | ⟨mx, hcal, hx, hm⟩ | ⟨mx, name, hcal, hx, hm⟩
  · cases hm
  · injection hm with h1 h2; subst h1; subst h2
    have e2 := ev_rel hr.tmps hx
    rw [hv] at e2
    simp only [VRel] at e2
    obtain ⟨q, h3, h4⟩ := e2
    exact ⟨q, c.args.map a.eval, h3, run_yieldv ho hcal h4 w, by simpa using e1⟩
  · cases hm

theorem mexec_step {P : Program} {m : MOp} (hm : m.isCall = false) {d : Option Nat} {s : St} {M : St → (St → Prop) → Prop} {K : St → Prop} (h : mexec P m d s M K) :
    ∃ v H', mstep s.H.size s.τ s.H m = some (v, H') ∧ M (St.put ⟨s.τ, H'⟩ d v) K := by
  cases m <;> simp only [MOp.isCall, Bool.true_eq_false] at hm <;> simp only [mexec] at h <;> (split at h <;> first | exact ⟨_, _, by assumption, h⟩ | exact h.elim)

/-- operations one behind the other -/
theorem ops_sound_on {ro : Option Nat} {P : Program} {B : Bs} {N : Nat} {ops : Array Oper} {K : St → Prop} {tail : List Nat} {QQ : Exit → Act → World → Prop} {s0 : St} {ι0 : Nat → Option Ref} {w0 : World}
    (hK : ∀ (s : St) (ι : Nat → Option Ref) (a : Act) (w : World), K s → Rel B N s ι a w → HExt ι0 s0.H w0 ι s.H w → wpOpsIn (fR ro) 0 P ops QQ tail a w) : ∀ (l : List Nat) (ms : List MI) (s : St) (ι : Nat → Option Ref) (a : Act) (w : World),
    cList P N ops l = some ms → mops P ms s K → Rel B N s ι a w → HExt ι0 s0.H w0 ι s.H w → wpOpsIn (fR ro) 0 P ops QQ (l ++ tail) a w
  | [], ms, s, ι, a, w, hc, h, hr, he => by
    simp only [cList, Option.some.injEq] at hc; subst hc
    exact hK s ι a w h hr he
  | i :: l, ms, s, ι, a, w, hc, h, hr, he => by
    simp only [cList] at hc
    split at hc
    rotate_left
    · cases hc
    rename_i m ml hm hml
    simp only [Option.some.injEq] at hc; subst hc
    simp only [mops] at h
    unfold cIdx at hm
    split at hm
    · cases hm
    rename_i o ho
    split at hm
    · cases hm
    rename_i op hop
    split at hm
    rotate_left
    · cases hm
    rename_i hd
    have hd' : ∀ t, o.dst = some t → t < N := by
      intro t ht; rw [ht] at hd; simpa [dstOk] using hd
    have ih := fun s ι a w => ops_sound_on (ro := ro) (B := B) (tail := tail) (QQ := QQ) (s0 := s0) (ι0 := ι0) (w0 := w0) hK l ml s ι a w hml
    -- the operation is carried out
    have run : mexec P op o.dst s (mops P ml) K → o.wpIn (fR ro) 0 P a w (wpOpsIn (fR ro) 0 P ops QQ (l ++ tail)) QQ := by
      intro hx
      refine ⟨fun _ _ => trivial, ?_⟩
      rw [Oper.semAt_eq _ _ _ (cOp_nodefer hop)]
      cases hcall : op.isCall with
      | false =>
        obtain ⟨v, H', hs, hk⟩ := mexec_step hcall hx
        obtain ⟨x, w', ι', hrun, hv, hH, hE, _⟩ := step_all hr.tmps hr.heap hop hs (hr.heap.fresh _ (Nat.le_refl _)) (Nat.le_refl _)
        have hr' := hr.put hE hv hH hd'
        have he' := he.trans hE
        rcases hrun with hrun | ⟨hrun, rfl⟩
        · rw [hrun]
          exact ih _ _ _ _ hk hr' (by cases hdd : o.dst <;> exact he')
        · rw [hrun]
          exact ih _ _ _ _ hk hr' (by cases hdd : o.dst <;> exact he')
      | true =>
        by_cases hy : ∃ fv l id, op = .callv fv l ∧ fv.ev s.τ = .yld id
        · obtain ⟨fv, l, id, rfl, hv⟩ := hy
          obtain ⟨q, us, hq, hrun, hus⟩ := yield_rel hop hv hr
          simp only [mexec, hv] at hx
          obtain ⟨R, hR, hk⟩ := hx
          obtain ⟨fn, tmps, assign, body, hy, hround⟩ := hR ι w us q hr.heap hus hq
          rw [hrun, hy]
          refine ⟨fun h => (by cases h), ?_⟩
          refine RoundIn.mono (R := fun e w' => ∃ b H' ι', e = .returned (.bool b) ∧ R b H' ∧ HRel ι' H' w' ∧ HExt ι s.H w ι' H' w') hround ?_
          rintro e w' ⟨b, H', ι', rfl, hRr, hH, hE⟩
          exact ih _ _ _ _ (hk b H' hRr) (hr.put hE (by simp [VRel]) hH hd') (by have := he.trans hE; cases hdd : o.dst <;> exact this)
        by_cases hmq : ∃ q, op = .mq q
        · obtain ⟨q, rfl⟩ := hmq
          obtain ⟨v, H', x, w', ι', hrun, hk, hv, hH, hE⟩ := mq_sound (k := fun v H' => mops P ml (St.put ⟨s.τ, H'⟩ o.dst v) K) hr.tmps hr.heap hop hx
          have hr' := hr.put hE hv hH hd'
          have he' := he.trans hE
          rcases hrun with hrun | ⟨hrun, rfl⟩
          · rw [hrun]
            exact ih _ _ _ _ hk hr' (by cases hdd : o.dst <;> exact he')
          · rw [hrun]
            exact ih _ _ _ _ hk hr' (by cases hdd : o.dst <;> exact he')
        obtain ⟨f, args, us, hrun, hus, R, hR, hk⟩ := call_rel hop hcall hx hr (fun fv l id h1 h2 => hy ⟨fv, l, id, h1, h2⟩) (fun q h => hmq ⟨q, h⟩)
        rw [hrun]
        refine ⟨fun h => (by cases h), (callsR (hR ι w us hr.heap hus)).mono ?_⟩
        rintro e w' ⟨r, u, H', ι', rfl, hRr, hv, hH, hE⟩
        exact ih _ _ _ _ (hk r H' hRr) (hr.put hE hv hH hd') (by have := he.trans hE; cases hdd : o.dst <;> exact this)
    -- it is passed over
    have skip : mops P ml (s.put o.dst (.tuple [])) K → wpOpsIn (fR ro) 0 P ops QQ (l ++ tail) (a.put o.dst undef) w := by
      intro hx
      have hr' := hr.put (HExt.refl _ _ _) (undef_rel ι) hr.heap hd'
      refine ih _ ι _ _ hx ?_ ?_
      · cases hdd : o.dst <;> simpa [St.put, hdd] using hr'
      · cases hdd : o.dst <;> exact he
    simp only [List.cons_append, wpOpsIn, ho]
    split at hm
    · rename_i hg
      simp only [Option.some.injEq] at hm; subst hm
      simp only [mone] at h
      rw [if_pos (by simp [Region.wanted, hg])]
      exact run h
    · rename_i j want hg
      split at hm
      rotate_left
      · cases hm
      rename_i t hjt
      split at hm
      rotate_left
      · cases hm
      rename_i htN
      simp only [Option.some.injEq] at hm; subst hm
      simp only [mone] at h
      have hget : a.tmps[t]? = some (a.tmps.getD t undef) := by
        have : t < a.tmps.size := by rw [hr.size]; exact htN
        rw [Array.getD_eq_getD_getElem?, Array.getElem?_eq_getElem this]; rfl
      have hrel := hr.tmps t
      split at h
      · rename_i b hb
        rw [hb] at hrel
        simp only [VRel] at hrel
        have hy : yielded ops a.tmps j = some b := by
          simp only [yielded, hjt, Option.bind_some, hget, hrel]
        split at h
        · rename_i hbw
          rw [if_pos (by simp [Region.wanted, hg, hy, hbw])]
          exact run h
        · rename_i hbw
          rw [if_neg (by simp [Region.wanted, hg, hy, hbw])]
          exact ⟨fun _ _ => trivial, skip h⟩
      · rename_i hb
        rw [hb] at hrel
        simp only [VRel, VRelL] at hrel
        obtain ⟨vs, hv, hvs⟩ := hrel
        have hy : yielded ops a.tmps j = none := by
          simp only [yielded, hjt, Option.bind_some, hget, hv]
        rw [if_neg (by simp [Region.wanted, hg, hy])]
        exact ⟨fun _ _ => trivial, skip h⟩
      · exact h.elim

theorem ops_sound {ro : Option Nat} {P : Program} {B : Bs} {N : Nat} {ops : Array Oper} {Q : Exit → St → Prop} {s0 : St} {ι0 : Nat → Option Ref} {w0 : World} (l : List Nat) (ms : List MI) (s : St) (ι : Nat → Option Ref) (a : Act) (w : World)
    (hc : cList P N ops l = some ms) (h : mops P ms s (Q .normal)) (hr : Rel B N s ι a w) (he : HExt ι0 s0.H w0 ι s.H w) : wpOpsIn (fR ro) 0 P ops (Post B N s0 ι0 w0 Q) l a w := by
  have := ops_sound_on (ro := ro) (tail := []) (QQ := Post B N s0 ι0 w0 Q) (K := Q .normal) (s0 := s0) (ι0 := ι0) (w0 := w0) (fun s ι a w h1 h2 h3 => ⟨s, ι, h1, h2, h3⟩) l ms s ι a w hc h hr he
  rwa [List.append_nil] at this

def AWp (ro : Option Nat) (P : Program) (B : Bs) (N : Nat) (c : Code) (Q : Exit → St → Prop) (s : St) : Prop :=
  ∀ ι a w, Rel B N s ι a w → c.wpIn (fR ro) 0 P (Post B N s ι w Q) a w

theorem Post.refl {B : Bs} {N : Nat} {s : St} {ι : Nat → Option Ref} {a : Act} {w : World} {Q : Exit → St → Prop} {e : Exit} (h : Q e s) (hr : Rel B N s ι a w) : Post B N s ι w Q e a w := ⟨s, ι, h, hr, HExt.refl _ _ _⟩

end Go.Rx
