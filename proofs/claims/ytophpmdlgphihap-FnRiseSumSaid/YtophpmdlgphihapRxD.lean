/-
  RxD: each operation of the program does what its abstract one does.
-/
import Derived.Test.YtophpmdlgphihapRxC
import Derived.Laws.Strings
import Derived.WideShapes
import Derived.Lib.SmallJoins
namespace Go.Rx
set_option linter.unusedVariables false
set_option linter.unusedSimpArgs false

theorem size_mk (l : List UInt8) : (ByteArray.mk l.toArray).size = l.length := by show l.toArray.size = _; simp

theorem ofVal0_rel {ι : Nat → Option Ref} {v : Value} {a : AV} (h : ofVal0 v = some a) : VRel ι a v := by
  cases v <;> simp only [ofVal0, Option.some.injEq, reduceCtorEq] at h
  all_goals first
    | (subst h; simp [VRel]; done)
    | (rename_i s; subst h; simp only [VRel]; done)
    | skip
  · rename_i a'; cases a' <;> simp [ofVal0] at h; subst h; simp [VRel]
  · rename_i a' n c
    cases a' with
    | some _ => simp [ofVal0] at h
    | none =>
      cases n with
      | succ n => simp [ofVal0] at h
      | zero => cases c with
        | succ n => simp [ofVal0] at h
        | zero => simp [ofVal0] at h; subst h; simp [VRel]
  · rename_i a'; cases a' <;> simp [ofVal0] at h; subst h; simp [VRel]

theorem ofVals_rel {ι : Nat → Option Ref} : ∀ {vs : List Value} {l : List AV}, ofVals vs = some l → VRelL ι l vs
  | [], l, h => by simp [ofVals] at h; subst h; simp [VRelL]
  | v :: r, l, h => by
    simp only [ofVals] at h
    split at h
    · rename_i a l' ha hl
      simp only [Option.some.injEq] at h; subst h
      simp only [VRelL]
      exact ⟨v, r, rfl, ofVal0_rel ha, ofVals_rel hl⟩
    · cases h

theorem ofVal_rel {ι : Nat → Option Ref} {v : Value} {a : AV} (h : ofVal v = some a) : VRel ι a v := by
  cases v with
  | agg cs =>
    simp only [ofVal, Option.map_eq_some_iff] at h
    obtain ⟨l, hl, rfl⟩ := h
    simp only [VRel]
    exact ⟨cs, rfl, ofVals_rel hl⟩
  | tuple cs =>
    simp only [ofVal, Option.map_eq_some_iff] at h
    obtain ⟨l, hl, rfl⟩ := h
    simp only [VRel]
    exact ⟨cs, rfl, ofVals_rel hl⟩
  | _ => exact ofVal0_rel (by simpa [ofVal] using h)

def TRel (ι : Nat → Option Ref) (τ : Nat → AV) (tmps : Array Value) : Prop := ∀ i, VRel ι (τ i) (tmps.getD i undef)

theorem TRel.mono {ι ι' : Nat → Option Ref} (h : Ref.le ι ι') {τ : Nat → AV} {tmps : Array Value} (ht : TRel ι τ tmps) : TRel ι' τ tmps := fun i => VRel.mono h _ _ (ht i)

theorem ev_rel {ι : Nat → Option Ref} {τ : Nat → AV} {a : Act} (ht : TRel ι τ a.tmps) {x : Operand} {m : MX} (h : cX x = some m) : VRel ι (m.ev τ) (a.eval x) := by
  cases x with
  | tmp t => simp only [cX, Option.some.injEq] at h; subst h; exact ht t
  | const v =>
    simp only [cX, Option.map_eq_some_iff] at h
    obtain ⟨l, hl, rfl⟩ := h
    exact ofVal_rel hl
  | func f => simp only [cX, Option.some.injEq] at h; subst h; simp [MX.ev, Act.eval, VRel, VRelL]
  | global g => simp only [cX, Option.some.injEq] at h; subst h; simp [MX.ev, Act.eval, VRel]

theorem evs_rel {ι : Nat → Option Ref} {τ : Nat → AV} {a : Act} (ht : TRel ι τ a.tmps) : ∀ {xs : List Operand} {ms : List MX}, cXs xs = some ms → VRelL ι (ms.map (·.ev τ)) (xs.map a.eval)
  | [], ms, h => by simp [cXs] at h; subst h; simp [VRelL]
  | x :: r, ms, h => by
    simp only [cXs] at h
    split at h
    · rename_i m l hm hl
      simp only [Option.some.injEq] at h; subst h
      simp only [List.map_cons, VRelL]
      exact ⟨_, _, rfl, ev_rel ht hm, evs_rel ht hl⟩
    · cases h

/-- what is to be shown of an operation -/
def Done (P : Program) (o : Oper) (a : Act) (nid : Nat) (ι : Nat → Option Ref) (H : Heap) (w : World) (v : AV) (H' : Heap) : Prop :=
  ∃ x w' ι', ((execOp a.eval o).run P w = .ok (.value x) w' ∨ ((execOp a.eval o).run P w = .ok .skip w' ∧ x = undef)) ∧ VRel ι' v x ∧ HRel ι' H' w' ∧ HExt ι H w ι' H' w' ∧ ∀ id, id ≠ nid → ι' id = ι id

theorem Done.pure {P : Program} {o : Oper} {a : Act} {nid : Nat} {ι : Nat → Option Ref} {H : Heap} {w : World} {v : AV} {x : Value} (hh : HRel ι H w)
    (hr : (execOp a.eval o).run P w = .ok (.value x) w) (hv : VRel ι v x) : Done P o a nid ι H w v H :=
  ⟨x, w, ι, .inl hr, hv, hh, HExt.refl ι H w, fun _ _ => rfl⟩

theorem Done.alloc {P : Program} {o : Oper} {a : Act} {nid : Nat} {ι : Nat → Option Ref} {H : Heap} {w w1 : World} (hh : HRel ι H w) (hn : ι nid = none) (hn' : nid ≤ H.size) {c : Array Value} {e : TypeId} {cs : List AV} {vs rest : List Value} {v : AV} {x : Value}
    (hr : (execOp a.eval o).run P w = .ok (.value x) w1) (hw : w1.heap = w.heap.push (.cells c e (0, 0))) (ho : w1.os = w.os) (ht : w1.tape = w.tape) (hu : w1.output = w.output)
    (hv : VRelL ι cs vs) (hc : c.toList = vs ++ rest) (hx : VRel (Ref.with ι nid ⟨w.heap.size, 0, c.size⟩) v x) : Done P o a nid ι H w v (H.new nid (some ⟨true, cs⟩)) := by
  obtain ⟨h1, h2⟩ := hh.alloc hn hn' hw ho ht hu hv hc
  exact ⟨x, w1, _, .inl hr, hx, h1, h2, fun id hid => by simp [Ref.with, hid]⟩

theorem tabGet_is {P : Program} {name : String} {t : TypeId} : ∀ (l : List TypeId), t ∈ (l.filterMap fun t => (methOf P name t).map (t, ·)).map (·.1) → ∃ f, methOf P name t = some f
  | [], h => by simp at h
  | u :: l, h => by
    rw [List.filterMap_cons] at h
    cases hm : methOf P name u with
    | none => rw [hm] at h; exact tabGet_is l h
    | some g =>
      rw [hm] at h
      simp only [Option.map_some, List.map_cons, List.mem_cons] at h
      rcases h with rfl | h
      · exact ⟨g, hm⟩
      · exact tabGet_is l h
theorem okMeths_is {P : Program} {name : String} {t : TypeId} (h : hasM (okMeths P) name t = true) : ∃ f, methOf P name t = some f := by
  unfold okMeths at h
  have key : ∀ l : List String, hasM (l.map fun n => (n, (methTab P n).map (·.1))) name t = true → ∃ f, methOf P name t = some f := by
    intro l
    induction l with
    | nil => intro h; simp [hasM] at h
    | cons n l ih =>
      intro h
      simp only [List.map_cons, hasM, Bool.or_eq_true, Bool.and_eq_true, beq_iff_eq] at h
      rcases h with ⟨e, h2⟩ | h2
      · rw [List.contains_iff_mem, e] at h2
        exact tabGet_is _ h2
      · exact ih h2
  exact key _ h
theorem methOf_parts {P : Program} {name : String} {t : TypeId} {f : FuncId} (h : methOf P name t = some f) : ∃ i d m, P.info? t = some i ∧ P.underlying t = some d ∧ i.methods.find? (·.name == name) = some m ∧ m.path = #[] ∧ m.func = some (f, isPtr d) := by
  unfold methOf at h
  split at h
  rotate_left
  · cases h
  rename_i i d hi hd
  split at h
  rotate_left
  · cases h
  rename_i m hm
  split at h
  rotate_left
  · cases h
  rename_i hp
  split at h
  rotate_left
  · cases h
  rename_i g b hfu
  split at h
  rotate_left
  · cases h
  rename_i hb
  simp only [Option.some.injEq] at h; subst h
  subst hb
  exact ⟨i, d, m, hi, hd, hm, by simpa using hp, hfu⟩
theorem run_nilAhead {P : Program} {name : String} {t : TypeId} {f : FuncId} (h : methOf P name t = some f) (v : Value) (n : Nat) (w : World) : (nilAhead (n + 1) t v name).run P w = .ok (some false) w := by
  obtain ⟨i, d, m, hi, hd, hm, hp, hfu⟩ := methOf_parts h
  cases d <;> simp [nilAhead, typeInfo, hi, hm, hp, followBlind, hfu, run_underlying hd, isPtr]
theorem mem_have {P : Program} {want : Array (String × TypeId)} {t : TypeId} (h : (haveAll P want).contains t = true) : ∃ j, P.info? t = some j ∧ Instr.missingMethod want j.methods = none := by
  rw [List.contains_iff_mem] at h
  unfold haveAll at h
  rw [List.mem_filter] at h
  have h2 := h.2
  split at h2
  · rename_i j hj
    exact ⟨j, hj, by simpa using h2⟩
  · cases h2
theorem mem_lack {P : Program} {want : Array (String × TypeId)} {t : TypeId} (h : (lackSome P want).contains t = true) : ∃ j s, P.info? t = some j ∧ Instr.missingMethod want j.methods = some s := by
  rw [List.contains_iff_mem] at h
  unfold lackSome at h
  rw [List.mem_filter] at h
  have h2 := h.2
  split at h2
  · rename_i j hj
    cases hm : Instr.missingMethod want j.methods with
    | none => rw [hm] at h2; simp at h2
    | some s => exact ⟨j, s, hj, hm⟩
  · cases h2
section
variable {P : Program} {o : Oper} {a : Act} {nid : Nat} {ι : Nat → Option Ref} {H H' : Heap} {w : World} {τ : Nat → AV} {v : AV} (ht : TRel ι τ a.tmps) (hh : HRel ι H w)

include ht hh

theorem step_mv {x : Operand} {m : MX} (ho : o.op = .move x ∨ o.op = .assign x) (hm : cX x = some m) : Done P o a nid ι H w (m.ev τ) H := by
  refine Done.pure hh (x := a.eval x) ?_ (ev_rel ht hm)
  rcases ho with h | h <;> simp [execOp, h]

theorem step_pick {c x y : Operand} {mc mx my : MX} (ho : o.op = .pick c x y) (hc : cX c = some mc) (hx : cX x = some mx) (hy : cX y = some my) {t : Bool} (ht' : mc.ev τ = .bool t) :
    Done P o a nid ι H w (if t = true then mx.ev τ else my.ev τ) H := by
  have h := ev_rel ht hc
  rw [ht'] at h
  simp only [VRel] at h
  refine Done.pure hh (x := if t = true then a.eval x else a.eval y) ?_ ?_
  · simp [execOp, ho, h, asBool]
  · split
    · exact ev_rel ht hx
    · exact ev_rel ht hy

omit ht hh in
theorem mbin_rel {op : BinOp} {x y r : AV} (h : mbin op x y = some r) {u v : Value} (hu : VRel ι x u) (hv : VRel ι y v) (t : TypeId) (ox oy : Operand) :
    ∃ z, (eqGuard op t ox oy u v).run P w = .ok () w ∧ (binOp op t u v).run P w = .ok z w ∧ VRel ι r z := by
  unfold mbin at h
  split at h
  · simp only [VRel] at hu hv
    subst hu; subst hv
    split at h
    · rename_i k a k' b hsh
      unfold mshift at h
      split at h
      · cases h
      rename_i hb
      refine Exists.imp (fun z hz => ⟨?_, hz⟩) ?_
      · cases op <;> simp [eqGuard]
      · cases op <;> simp only [reduceCtorEq, Option.some.injEq] at h
        all_goals (subst h; simp [binOp, Op.shift, hb, VRel])
    rename_i hsh
    split at h
    · rename_i k a k' b hk
      subst hk
      refine Exists.imp (fun z hz => ⟨?_, hz⟩) ?_
      · cases op <;> simp [eqGuard]
      · cases op <;> simp only [reduceCtorEq, Option.some.injEq] at h
        all_goals first
          | (subst h; simp [binOp, Op.intArith, Op.intCmp, Op.intBits, VRel]; done)
          | (split at h
             · cases h
             · rename_i hb
               simp only [Option.some.injEq] at h; subst h
               simp [binOp, Op.intDiv, hb, VRel])
    · cases h
  · simp only [VRel] at hu hv
    subst hu; subst hv
    refine Exists.imp (fun z hz => ⟨?_, hz⟩) ?_
    · cases op <;> simp [eqGuard]
    · rename_i a b
      have e1 : ∀ l : List UInt8, (ByteArray.mk l.toArray).toList = l := fun l => by rw [ByteArray.toList_eq]
      have e2 : ∀ l : List UInt8, (ByteArray.mk l.toArray).size = l.length := size_mk
      cases op <;> simp only [reduceCtorEq, Option.some.injEq] at h
      all_goals first
        | (subst h; simp [binOp, Op.stringOp, VRel, e1, e2]; done)
        | (split at h
           · rename_i hb
             simp only [Option.some.injEq] at h; subst h
             refine ⟨.string ⟨(a ++ b).toArray⟩, ?_, by simp [VRel]⟩
             simp only [binOp, Op.stringOp, e2]
             rw [if_neg (by simp only [IntKind.max, IntKind.signed, IntKind.bits]; simp; omega)]
             have e3 : (ByteArray.mk a.toArray) ++ (ByteArray.mk b.toArray) = ⟨(a ++ b).toArray⟩ := by
               apply Go.WideShapes.bytes_inj
               rw [Go.Joins.data_append]
             rw [e3]; rfl
           · cases h)
  · cases h

theorem step_bin {op : BinOp} {t t' : TypeId} {x y : Operand} {mx my : MX} (ho : o.op = .binOp op t x y t') (hx : cX x = some mx) (hy : cX y = some my) {r : AV} (h : mbin op (mx.ev τ) (my.ev τ) = some r) :
    Done P o a nid ι H w r H := by
  obtain ⟨z, h0, h1, h2⟩ := mbin_rel (P := P) (w := w) h (ev_rel ht hx) (ev_rel ht hy) t x y
  exact Done.pure hh (x := z) (by simp [execOp, ho, h0, h1]) h2

omit ht hh in
theorem run_equal_bool {t : TypeId} (hu : P.underlying t = some .bool) (p q : Bool) : (Op.equal t (.bool p) (.bool q)).run P w = .ok (p == q) w := by
  unfold Op.equal
  rw [show Op.maxDepth = 9999 + 1 from rfl, Op.equalIn]
  simp [run_underlying hu]

omit ht hh in
theorem run_equal_slices {t e : TypeId} (hu : P.underlying t = some (.slice e)) (p q : Option Addr) (n c n' c' : Nat) (h : p = none ∨ q = none) :
    (Op.equal t (.slice p n c) (.slice q n' c')).run P w = .ok (p.isNone && q.isNone) w := by
  unfold Op.equal
  rw [show Op.maxDepth = 9999 + 1 from rfl, Op.equalIn]
  cases p <;> cases q <;> simp [run_underlying hu] at h ⊢

theorem step_beq {neg : Bool} {t t' : TypeId} {x y : Operand} {mx my : MX} (ho : o.op = .binOp (if neg = true then .neq else .eql) t x y t') (hu : P.underlying t = some .bool) (hx : cX x = some mx) (hy : cX y = some my) {p q : Bool}
    (h1 : mx.ev τ = .bool p) (h2 : my.ev τ = .bool q) : Done P o a nid ι H w (.bool (if neg = true then !(p == q) else p == q)) H := by
  have e1 := ev_rel ht hx
  have e2 := ev_rel ht hy
  rw [h1] at e1; rw [h2] at e2
  simp only [VRel] at e1 e2
  refine Done.pure hh (x := .bool (if neg = true then !(p == q) else p == q)) ?_ (by simp [VRel])
  cases neg <;> simp [execOp, ho, e1, e2, eqGuard, binOp, run_equal_bool hu]

theorem step_nileq {neg : Bool} {t t' e : TypeId} {x y : Operand} {mx my : MX} (ho : o.op = .binOp (if neg = true then .neq else .eql) t x y t') (hu : P.underlying t = some (.slice e)) (hx : cX x = some mx) (hy : cX y = some my) {r : AV}
    (h : mstep nid τ H (.nileq neg mx my) = some (r, H')) : Done P o a nid ι H w r H' := by
  have e1 := ev_rel ht hx
  have e2 := ev_rel ht hy
  simp only [mstep] at h
  split at h <;> simp only [Option.some.injEq, Prod.mk.injEq, reduceCtorEq] at h
  all_goals
    rename_i he1 he2
    obtain ⟨rfl, rfl⟩ := h
    rw [he1] at e1; rw [he2] at e2
    simp only [VRel] at e1 e2
  · refine Done.pure hh (x := .bool (!neg)) ?_ (by simp [VRel])
    cases neg <;> simp [execOp, ho, e1, e2, eqGuard, binOp, run_equal_slices hu]
  · obtain ⟨r, a', c', _, hv, _⟩ := e1
    refine Done.pure hh (x := .bool neg) ?_ (by simp [VRel])
    cases neg <;> simp [execOp, ho, hv, e2, eqGuard, binOp, run_equal_slices hu]
  · obtain ⟨r, a', c', _, hv, _⟩ := e2
    refine Done.pure hh (x := .bool neg) ?_ (by simp [VRel])
    cases neg <;> simp [execOp, ho, hv, e1, eqGuard, binOp, run_equal_slices hu]

omit ht hh in
theorem run_equal_ptrs {t e : TypeId} (hu : P.underlying t = some (.pointer e)) (p q : Option Addr) (h : p = none ∨ q = none) :
    (Op.equal t (.pointer p) (.pointer q)).run P w = .ok (p.isNone && q.isNone) w := by
  unfold Op.equal
  rw [show Op.maxDepth = 9999 + 1 from rfl, Op.equalIn]
  cases p <;> cases q <;> simp [run_underlying hu] at h ⊢

theorem step_peq {neg : Bool} {t t' e : TypeId} {x y : Operand} {mx my : MX} (ho : o.op = .binOp (if neg = true then .neq else .eql) t x y t') (hu : P.underlying t = some (.pointer e)) (hx : cX x = some mx) (hy : cX y = some my) {r : AV}
    (h : mstep nid τ H (.peq neg mx my) = some (r, H')) : Done P o a nid ι H w r H' := by
  have e1 := ev_rel ht hx
  have e2 := ev_rel ht hy
  simp only [mstep] at h
  split at h <;> simp only [Option.some.injEq, Prod.mk.injEq, reduceCtorEq] at h
  all_goals
    rename_i he1 he2
    obtain ⟨rfl, rfl⟩ := h
    rw [he1] at e1; rw [he2] at e2
    simp only [VRel] at e1 e2
  · refine Done.pure hh (x := .bool (!neg)) ?_ (by simp [VRel])
    cases neg <;> simp [execOp, ho, e1, e2, eqGuard, binOp, run_equal_ptrs hu]
  · obtain ⟨r, _, hv⟩ := e1
    refine Done.pure hh (x := .bool neg) ?_ (by simp [VRel])
    cases neg <;> simp [execOp, ho, hv, e2, eqGuard, binOp, run_equal_ptrs hu]
  · obtain ⟨r, _, hv⟩ := e2
    refine Done.pure hh (x := .bool neg) ?_ (by simp [VRel])
    cases neg <;> simp [execOp, ho, hv, e1, eqGuard, binOp, run_equal_ptrs hu]

theorem step_un {op : UnOp} {t : TypeId} {x : Operand} {mx : MX} (ho : o.op = .unOp op t x) (hx : cX x = some mx) {r : AV} (h : mun op (mx.ev τ) = some r) : Done P o a nid ι H w r H := by
  have e1 := ev_rel ht hx
  unfold mun at h
  split at h
  · rename_i k n he
    rw [he] at e1; simp only [VRel] at e1
    cases op <;> simp only [reduceCtorEq, Option.some.injEq] at h
    · subst h
      exact Done.pure hh (x := .int k (k.wrap (0 - n))) (by simp [execOp, ho, e1, Op.unary, Op.intArith]) (by simp [VRel])
    · subst h
      exact Done.pure hh (x := .int k (k.wrap (BitVec.ofInt k.bits (if k.signed = true then -1 else k.max) ^^^ BitVec.ofInt k.bits n).toNat)) (by simp [execOp, ho, e1, Op.unary, Op.intBits]) (by simp [VRel])
  · rename_i b he
    rw [he] at e1; simp only [VRel] at e1
    cases op <;> simp only [reduceCtorEq, Option.some.injEq] at h
    subst h
    exact Done.pure hh (x := .bool !b) (by simp [execOp, ho, e1, Op.unary]) (by simp [VRel])
  · cases h

theorem step_conv {k k0 : IntKind} {t u : TypeId} {x : Operand} {mx : MX} (ho : o.op = .convert t u x) (ht' : P.underlying t = some (.int k0)) (hu : P.underlying u = some (.int k)) (hx : cX x = some mx) {k' : IntKind} {n : Int} (h : mx.ev τ = .int k' n) :
    Done P o a nid ι H w (.int k (k.wrap n)) H := by
  have e1 := ev_rel ht hx
  rw [h] at e1; simp only [VRel] at e1
  exact Done.pure hh (x := .int k (k.wrap n)) (by simp [execOp, ho, e1, convert, run_underlying ht', run_underlying hu, Conv.intToInt]) (by simp [VRel])

theorem step_len {c : Call} {t e : TypeId} {x : Operand} {mx : MX} (ho : o.op = .call c) (hc : c.callee = .builtin .len) (ha : c.args = #[x]) (hta : c.argTypes = #[t]) (hu : P.underlying t = some (.slice e)) (hx : cX x = some mx)
    (h : (mx.ev τ).isSlice = true) : Done P o a nid ι H w (.int .i64 (mx.ev τ).len) H := by
  have e1 := ev_rel ht hx
  cases he : mx.ev τ <;> rw [he] at h e1 <;> simp only [AV.isSlice, Bool.false_eq_true] at h <;> simp only [VRel] at e1 <;> simp only [AV.len]
  · obtain ⟨r, a', c', _, hv, _⟩ := e1
    exact Done.pure hh (x := .int .i64 _) (by simp [execOp, ho, hc, ha, hta, resolve, invoke, builtin, hv, Builtin.len_, run_underlying hu, goInt]; rfl) (by simp [VRel])
  · exact Done.pure hh (x := .int .i64 0) (by simp [execOp, ho, hc, ha, hta, resolve, invoke, builtin, e1, Builtin.len_, run_underlying hu, goInt]) (by simp [VRel])

theorem step_lens {c : Call} {t : TypeId} {x : Operand} {mx : MX} (ho : o.op = .call c) (hc : c.callee = .builtin .len) (ha : c.args = #[x]) (hta : c.argTypes = #[t]) (hu : P.underlying t = some .string) (hx : cX x = some mx) {s : List UInt8}
    (h : mx.ev τ = .str s) : Done P o a nid ι H w (.int .i64 s.length) H := by
  have e1 := ev_rel ht hx
  rw [h] at e1; simp only [VRel] at e1
  exact Done.pure hh (x := .int .i64 s.length) (by simp [execOp, ho, hc, ha, hta, resolve, invoke, builtin, e1, Builtin.len_, run_underlying hu, goInt, size_mk]) (by simp [VRel])

theorem step_ixa {t e : TypeId} {x i : Operand} {mx mi : MX} {j : TypeInfo} (ho : o.op = .indexAddr t x i) (hu : P.underlying t = some (.slice e)) (hj : P.info? e = some j) (hx : cX x = some mx) (hi : cX i = some mi)
    {k : IntKind} {n : Int} (h1 : mi.ev τ = .int k n) {id off l : Nat} {cap : Option Nat} (h2 : mx.ev τ = .slice id off l cap j.size) (h3 : 0 ≤ n ∧ n < l) : Done P o a nid ι H w (.ptr id (off + n.toNat * j.size)) H := by
  have e1 := ev_rel ht hx
  have e2 := ev_rel ht hi
  rw [h2] at e1; rw [h1] at e2
  simp only [VRel] at e1 e2
  obtain ⟨r, a', c', hr, hv, hlc, _, _, hor⟩ := e1
  rcases hor with ⟨h4, _⟩ | ⟨rfl, _⟩
  · omega
  · refine Done.pure hh (x := .pointer (some ⟨r.row, r.off + (off + n.toNat * j.size), none⟩)) ?_ (by simp only [VRel]; exact ⟨r, hr, rfl⟩)
    simp [execOp, ho, hv, e2, Instr.indexAt, asIntOf, run_underlying hu, h3, sizeOf, typeInfo, hj, add_lit, Nat.add_assoc]

theorem step_arra {t e : TypeId} {x i : Operand} {mx mi : MX} {j : TypeInfo} {m : Nat} (ho : o.op = .indexAddr t x i) (hu : P.underlying t = some (.array m e)) (hj : P.info? e = some j) (hx : cX x = some mx) (hi : cX i = some mi)
    {k : IntKind} {n : Int} (h1 : mi.ev τ = .int k n) {id off : Nat} (h2 : mx.ev τ = .ptr id off) (h3 : 0 ≤ n ∧ n < m) : Done P o a nid ι H w (.ptr id (off + n.toNat * j.size)) H := by
  have e1 := ev_rel ht hx
  have e2 := ev_rel ht hi
  rw [h2] at e1; rw [h1] at e2
  simp only [VRel] at e1 e2
  obtain ⟨r, hr, hv⟩ := e1
  refine Done.pure hh (x := .pointer (some ⟨r.row, r.off + (off + n.toNat * j.size), none⟩)) ?_ (by simp only [VRel]; exact ⟨r, hr, rfl⟩)
  simp [execOp, ho, hv, e2, Instr.indexAt, Instr.sureAddr, asIntOf, run_underlying hu, h3, sizeOf, typeInfo, hj, add_lit, Nat.add_assoc]

theorem step_arrag {t e : TypeId} {x i : Operand} {mx mi : MX} {j : TypeInfo} {m : Nat} (ho : o.op = .indexAddr t x i) (hu : P.underlying t = some (.array m e)) (hj : P.info? e = some j) (hx : cX x = some mx) (hi : cX i = some mi)
    {k : IntKind} {n : Int} (h1 : mi.ev τ = .int k n) {g off : Nat} (h2 : mx.ev τ = .gl g off) (h3 : 0 ≤ n ∧ n < m) : Done P o a nid ι H w (.gl g (off + n.toNat * j.size)) H := by
  have e1 := ev_rel ht hx
  have e2 := ev_rel ht hi
  rw [h2] at e1; rw [h1] at e2
  simp only [VRel] at e1 e2
  refine Done.pure hh (x := .pointer (some ⟨g, off + n.toNat * j.size, none⟩)) ?_ (by simp only [VRel])
  simp [execOp, ho, e1, e2, Instr.indexAt, Instr.sureAddr, asIntOf, run_underlying hu, h3, sizeOf, typeInfo, hj, add_lit, Nat.add_assoc]

theorem step_chr {t : TypeId} {x i : Operand} {mx mi : MX} (ho : o.op = .index t x i) (hu : P.underlying t = some .string) (hx : cX x = some mx) (hi : cX i = some mi)
    {k : IntKind} {n : Int} (h1 : mi.ev τ = .int k n) {s : List UInt8} (h2 : mx.ev τ = .str s) (h3 : 0 ≤ n) {b : UInt8} (h4 : s[n.toNat]? = some b) : Done P o a nid ι H w (.int .u8 b.toNat) H := by
  have e1 := ev_rel ht hx
  have e2 := ev_rel ht hi
  rw [h2] at e1; rw [h1] at e2
  simp only [VRel] at e1 e2
  refine Done.pure hh (x := .int .u8 b.toNat) ?_ (by simp [VRel])
  have hl : n.toNat < s.length := by
    rcases Nat.lt_or_ge n.toNat s.length with h | h
    · exact h
    · rw [List.getElem?_eq_none h] at h4; cases h4
  have hb : s[n.toNat] = b := by rw [List.getElem?_eq_getElem hl] at h4; exact Option.some.inj h4
  have e3 : (ByteArray.mk s.toArray)[n.toNat]? = some b := by
    rw [getElem?_pos _ _ (by simpa [ByteArray.size] using hl)]
    congr 1
  simp [execOp, ho, e1, e2, Instr.index, asIntOf, run_underlying hu, h3, e3]

theorem step_fa {t : TypeId} {x : Operand} {mx : MX} {fs : Array Field} {f : Nat} {fd : Field} {j : TypeInfo} (ho : o.op = .fieldAddr t x f) (hu : P.underlying t = some (.struct fs)) (hf : fs[f]? = some fd) (hj : P.info? fd.type = some j) (hs : j.size ≠ 0)
    (hx : cX x = some mx) {id off : Nat} (h2 : mx.ev τ = .ptr id off) : Done P o a nid ι H w (.ptr id (off + fd.offset)) H := by
  have e1 := ev_rel ht hx
  rw [h2] at e1
  simp only [VRel] at e1
  obtain ⟨r, hr, hv⟩ := e1
  refine Done.pure hh (x := .pointer (some ⟨r.row, r.off + (off + fd.offset), none⟩)) ?_ (by simp only [VRel]; exact ⟨r, hr, rfl⟩)
  simp [execOp, ho, hv, Instr.fieldAt, Instr.sureAddr, run_underlying hu, hf, fieldPlace, sizeOf, typeInfo, hj, hs, add_lit, Nat.add_assoc]

theorem step_fag {t : TypeId} {x : Operand} {mx : MX} {fs : Array Field} {f : Nat} {fd : Field} {j : TypeInfo} (ho : o.op = .fieldAddr t x f) (hu : P.underlying t = some (.struct fs)) (hf : fs[f]? = some fd) (hj : P.info? fd.type = some j) (hs : j.size ≠ 0)
    (hx : cX x = some mx) {g off : Nat} (h2 : mx.ev τ = .gl g off) : Done P o a nid ι H w (.gl g (off + fd.offset)) H := by
  have e1 := ev_rel ht hx
  rw [h2] at e1
  simp only [VRel] at e1
  refine Done.pure hh (x := .pointer (some ⟨g, off + fd.offset, none⟩)) ?_ (by simp only [VRel])
  simp [execOp, ho, e1, Instr.fieldAt, Instr.sureAddr, run_underlying hu, hf, fieldPlace, sizeOf, typeInfo, hj, hs, add_lit, Nat.add_assoc]

theorem step_ext {x : Operand} {mx : MX} {i : Nat} (ho : o.op = .extract x i) (hx : cX x = some mx) {vs : List AV} (h : mx.ev τ = .tuple vs) {r : AV} (hr : vs[i]? = some r) : Done P o a nid ι H w r H := by
  have e1 := ev_rel ht hx
  rw [h] at e1
  simp only [VRel] at e1
  obtain ⟨us, hv, hl⟩ := e1
  obtain ⟨u, hu, hru⟩ := hl.get hr
  refine Done.pure hh (x := u) ?_ hru
  simp only [Array.getElem?_toList] at hu
  simp [execOp, ho, hv, Instr.extract, hu]

theorem step_mkf {f : FuncId} {first cs : Array Operand} {ms : List MX} (ho : o.op = .makeFunc (.func f) first cs) (hfi : first.toList = []) (hx : cXs cs.toList = some ms) : Done P o a nid ι H w (.func f (ms.map (·.ev τ))) H := by
  have e1 := evs_rel ht hx
  have hf0 : first = #[] := by simpa using hfi
  refine Done.pure hh (x := .func (.func f) #[] (cs.map a.eval)) ?_ ?_
  · simp [execOp, ho, Instr.makeFunc, hf0]
  · simp only [VRel]
    exact ⟨_, rfl, by simpa using e1⟩

theorem step_mkb {f : FuncId} {first cs : Array Operand} {x : Operand} {m : MX} (ho : o.op = .makeFunc (.func f) first cs) (hfi : first.toList = [x]) (hcs : cs.isEmpty = true) (hx : cX x = some m) : Done P o a nid ι H w (.bound f (m.ev τ)) H := by
  have e1 := ev_rel ht hx
  have hf0 : first = #[x] := by apply Array.ext'; simpa using hfi
  have hc0 : cs = #[] := by simpa using hcs
  refine Done.pure hh (x := .func (.func f) #[a.eval x] #[]) ?_ ?_
  · simp [execOp, ho, Instr.makeFunc, hf0, hc0]
  · simp only [VRel]
    exact ⟨_, rfl, e1⟩

theorem step_mki {t : TypeId} {x : Operand} {mx : MX} {d : TypeDesc} (ho : o.op = .makeInterface t x) (hu : P.underlying t = some d) (hd : ∀ ms, d ≠ .interface ms) (hx : cX x = some mx) : Done P o a nid ι H w (.iface t (mx.ev τ)) H := by
  have e1 := ev_rel ht hx
  refine Done.pure hh (x := .iface t (a.eval x)) ?_ (by simp only [VRel]; exact ⟨_, rfl, e1⟩)
  cases d <;> first | exact absurd rfl (hd _) | simp [execOp, ho, Instr.makeInterface, run_underlying hu]

theorem step_nilck {x : Operand} {mx : MX} (ho : o.op = .nilCheck x) (hx : cX x = some mx) {r : AV} (h : (mstep nid τ H (.nilck mx)) = some (r, H')) : Done P o a nid ι H w r H' := by
  have e1 := ev_rel ht hx
  simp only [mstep] at h
  split at h <;> simp only [Option.some.injEq, Prod.mk.injEq, reduceCtorEq] at h
  all_goals
    rename_i he
    obtain ⟨rfl, rfl⟩ := h
    rw [he] at e1
    refine Done.pure hh (x := a.eval x) ?_ e1
    simp only [VRel] at e1
  · obtain ⟨r, hr, hv⟩ := e1
    simp [execOp, ho, hv]
  · obtain ⟨vs, hv, _⟩ := e1
    simp [execOp, ho, hv]
  · obtain ⟨y, hv, _⟩ := e1
    simp [execOp, ho, hv]
  · obtain ⟨y, hv, _⟩ := e1
    simp [execOp, ho, hv]

theorem step_mkm {name : String} {first cs : Array Operand} {x : Operand} {m : MX} (ho : o.op = .makeFunc (.method name) first cs) (hfi : first.toList = [x]) (hcs : cs.isEmpty = true) (hx : cX x = some m) {t : TypeId} {v : AV} (h : m.ev τ = .iface t v) : Done P o a nid ι H w (.imeth name t v) H := by
  have e1 := ev_rel ht hx
  rw [h] at e1
  simp only [VRel] at e1
  obtain ⟨y, hy, hvy⟩ := e1
  have hf0 : first = #[x] := by apply Array.ext'; simpa using hfi
  have hc0 : cs = #[] := by simpa using hcs
  refine Done.pure hh (x := .func (.method name) #[.iface t y] #[]) ?_ ?_
  · simp [execOp, ho, Instr.makeFunc, hf0, hc0, hy]
  · simp only [VRel]
    exact ⟨_, rfl, hvy⟩

theorem step_nilckm {x : Operand} {mx : MX} (ho : o.op = .nilCheck x) (hx : cX x = some mx) {r : AV} (h : (mstep nid τ H (.nilckm mx (okMeths P))) = some (r, H')) : Done P o a nid ι H w r H' := by
  have e1 := ev_rel ht hx
  simp only [mstep] at h
  split at h
  · rename_i he
    simp only [Option.some.injEq, Prod.mk.injEq] at h
    obtain ⟨rfl, rfl⟩ := h
    rw [he] at e1
    refine Done.pure hh (x := a.eval x) ?_ e1
    simp only [VRel] at e1
    obtain ⟨vs, hv, _⟩ := e1
    simp [execOp, ho, hv]
  · rename_i he
    simp only [Option.some.injEq, Prod.mk.injEq] at h
    obtain ⟨rfl, rfl⟩ := h
    rw [he] at e1
    refine Done.pure hh (x := a.eval x) ?_ e1
    simp only [VRel] at e1
    obtain ⟨y, hv, _⟩ := e1
    simp [execOp, ho, hv]
  · rename_i name t v he
    split at h
    · rename_i hm
      simp only [Option.some.injEq, Prod.mk.injEq] at h
      obtain ⟨rfl, rfl⟩ := h
      rw [he] at e1
      refine Done.pure hh (x := a.eval x) ?_ e1
      simp only [VRel] at e1
      obtain ⟨y, hv, _⟩ := e1
      obtain ⟨f, hf⟩ := okMeths_is hm
      have hpos : 0 < Made.depth := by decide
      have h1 := run_nilAhead hf y (P.types.size + (Made.depth - 1)) w
      rw [show P.types.size + (Made.depth - 1) + 1 = P.types.size + Made.depth by omega] at h1
      simp [execOp, ho, hv, h1]
    · cases h
  · cases h

theorem step_tas {x : Operand} {mx : MX} {xt t : TypeId} {ok : Bool} {d : TypeDesc} {i : TypeInfo} {zv : Value} {z : AV} (ho : o.op = .typeAssert x xt t ok) (hu : P.underlying t = some d) (hd : ∀ ms, d ≠ .interface ms) (hi : P.info? t = some i) (hz : i.zero = some zv) (hzv : ofVal zv = some z) (hx : cX x = some mx) {r : AV} (h : (mstep nid τ H (.tas mx t ok z)) = some (r, H')) : Done P o a nid ι H w r H' := by
  have e1 := ev_rel ht hx
  have ez := ofVal_rel (ι := ι) hzv
  have hif : ∀ v : Value, (match d, v with
    | .interface _, .nilIface => (pure v : Sem Value)
    | _, _ => pure v) = pure v := fun v => by split <;> rfl
  simp only [mstep] at h
  split at h
  · rename_i t' v hv
    rw [hv] at e1
    simp only [VRel] at e1
    obtain ⟨y, hy, hvy⟩ := e1
    split at h
    · rename_i htt
      subst htt
      simp only [Option.some.injEq, Prod.mk.injEq] at h
      obtain ⟨rfl, rfl⟩ := h
      cases ok with
      | true =>
        refine Done.pure hh (x := .tuple #[y, .bool true]) ?_ (by simp only [if_true, VRel, VRelL]; exact ⟨_, rfl, _, _, rfl, hvy, _, _, rfl, rfl, rfl⟩)
        cases d <;> first | exact absurd rfl (hd _) | simp [execOp, ho, Instr.typeAssert, run_underlying hu, hy]
      | false =>
        refine Done.pure hh (x := y) ?_ hvy
        cases d <;> first | exact absurd rfl (hd _) | simp [execOp, ho, Instr.typeAssert, run_underlying hu, hy]
    · rename_i htt
      split at h
      · rename_i hok
        subst hok
        simp only [Option.some.injEq, Prod.mk.injEq] at h
        obtain ⟨rfl, rfl⟩ := h
        refine Done.pure hh (x := .tuple #[zv, .bool false]) ?_ (by simp only [VRel, VRelL]; exact ⟨_, rfl, _, _, rfl, ez, _, _, rfl, rfl, rfl⟩)
        cases d <;> first | exact absurd rfl (hd _) | simp [execOp, ho, Instr.typeAssert, run_underlying hu, hy, htt, zeroValue, typeInfo, hi, hz]
      · cases h
  · rename_i hv
    rw [hv] at e1
    simp only [VRel] at e1
    split at h
    · rename_i hok
      subst hok
      simp only [Option.some.injEq, Prod.mk.injEq] at h
      obtain ⟨rfl, rfl⟩ := h
      refine Done.pure hh (x := .tuple #[zv, .bool false]) ?_ (by simp only [VRel, VRelL]; exact ⟨_, rfl, _, _, rfl, ez, _, _, rfl, rfl, rfl⟩)
      cases d <;> first | exact absurd rfl (hd _) | simp [execOp, ho, Instr.typeAssert, run_underlying hu, e1, zeroValue, typeInfo, hi, hz]
    · cases h
  · cases h

theorem step_tai {x : Operand} {mx : MX} {xt t : TypeId} {ok : Bool} {want : Array (String × TypeId)} {i : TypeInfo} (ho : o.op = .typeAssert x xt t ok) (hu : P.underlying t = some (.interface want)) (hi : P.info? t = some i) (hz : i.zero = some .nilIface) (hx : cX x = some mx) {r : AV} (h : (mstep nid τ H (.tai mx (haveAll P want) (lackSome P want) ok)) = some (r, H')) : Done P o a nid ι H w r H' := by
  have e1 := ev_rel ht hx
  simp only [mstep] at h
  split at h
  · rename_i t' v hv
    rw [hv] at e1
    simp only [VRel] at e1
    obtain ⟨y, hy, hvy⟩ := e1
    split at h
    · rename_i hc
      obtain ⟨j, hj, hm⟩ := mem_have hc
      simp only [Option.some.injEq, Prod.mk.injEq] at h
      obtain ⟨rfl, rfl⟩ := h
      cases ok with
      | true =>
        refine Done.pure hh (x := .tuple #[.iface t' y, .bool true]) ?_ (by simp only [if_true, VRel, VRelL]; exact ⟨_, rfl, _, _, rfl, ⟨_, rfl, hvy⟩, _, _, rfl, rfl, rfl⟩)
        simp [execOp, ho, Instr.typeAssert, run_underlying hu, hy, typeInfo, hj, hm]
      | false =>
        refine Done.pure hh (x := .iface t' y) ?_ (by simp only [Bool.false_eq_true, if_false, VRel]; exact ⟨_, rfl, hvy⟩)
        simp [execOp, ho, Instr.typeAssert, run_underlying hu, hy, typeInfo, hj, hm]
    · split at h
      · rename_i hok
        obtain ⟨hok, hc⟩ := hok
        subst hok
        obtain ⟨j, s, hj, hm⟩ := mem_lack hc
        simp only [Option.some.injEq, Prod.mk.injEq] at h
        obtain ⟨rfl, rfl⟩ := h
        refine Done.pure hh (x := .tuple #[.nilIface, .bool false]) ?_ (by simp only [VRel, VRelL]; exact ⟨_, rfl, _, _, rfl, rfl, _, _, rfl, rfl, rfl⟩)
        simp [execOp, ho, Instr.typeAssert, run_underlying hu, hy, typeInfo, hj, hm, zeroValue, hi, hz]
      · cases h
  · rename_i hv
    rw [hv] at e1
    simp only [VRel] at e1
    split at h
    · rename_i hok
      subst hok
      simp only [Option.some.injEq, Prod.mk.injEq] at h
      obtain ⟨rfl, rfl⟩ := h
      refine Done.pure hh (x := .tuple #[.nilIface, .bool false]) ?_ (by simp only [VRel, VRelL]; exact ⟨_, rfl, _, _, rfl, rfl, _, _, rfl, rfl, rfl⟩)
      simp [execOp, ho, Instr.typeAssert, run_underlying hu, e1, zeroValue, typeInfo, hi, hz]
    · cases h
  · cases h
end
end Go.Rx
