/-
  RxM: code: how it is taken up, what is to be shown of it, and that this is enough.
-/
import Derived.Test.YtophpmdlgphihapRxL
import Derived.Test.YtophpmdlgphihapRx1
import Derived.RangeFuncLeaves
import Derived.RangeFuncIn
import Derived.RangeFuncRecord
import Derived.RangeFuncCalls
import Derived.Below
namespace Go.Rx
set_option linter.unusedVariables false
set_option linter.unusedSimpArgs false

inductive MC where
  | skip
  | reg (l : List MI)
  | drq (l : List MI)
  | drw (l : List MI) (prs : List (Nat × Nat))
  | drc (l : List MI) (prs : List (Nat × Nat))
  | dra (ls : List (List MI))
  | seq (a b : MC)
  | cond (c : MX) (a b : MC)
  | block (id : Nat) (a : MC)
  | loop (a : MC)
  | exit (id : Nat)
  | ret
  | rfunc (g : MX) (ps : List Nat) (a b : MC)
  | scope (a : MC)
  | dfr (n : Nat) (l : List MI) (d : Option Nat) (fx : MX) (args : List MX)

/-- no range over a function in it -/
def MC.flat : MC → Bool
  | .seq a b | .cond _ a b => a.flat && b.flat
  | .block _ a | .loop a | .scope a => a.flat
  | .rfunc .. | .dfr .. => false
  | _ => true

/-- it defers nothing -/
def MC.plain : MC → Bool
  | .seq a b | .cond _ a b | .rfunc _ _ a b => a.plain && b.plain
  | .block _ a | .loop a | .scope a => a.plain
  | .dfr .. => false
  | _ => true

theorem MC.flat_plain : ∀ {m : MC}, m.flat = true → m.plain = true
  | .seq a b, h => by simp only [MC.flat, Bool.and_eq_true] at h; simp only [MC.plain, Bool.and_eq_true]; exact ⟨MC.flat_plain h.1, MC.flat_plain h.2⟩
  | .cond _ a b, h => by simp only [MC.flat, Bool.and_eq_true] at h; simp only [MC.plain, Bool.and_eq_true]; exact ⟨MC.flat_plain h.1, MC.flat_plain h.2⟩
  | .block _ a, h => MC.flat_plain (m := a) h
  | .loop a, h => MC.flat_plain (m := a) h
  | .scope a, h => MC.flat_plain (m := a) h
  | .rfunc .., h => by simp [MC.flat] at h
  | .dfr .., h => by simp [MC.flat] at h
  | .skip, _ | .reg _, _ | .drq _, _ | .drw _ _, _ | .drc _ _, _ | .dra _, _ | .exit _, _ | .ret, _ => rfl


/-- the pairs that no edge orders -/
def unord (ops : Array Oper) (ms : List Nat) : List (Nat × Nat) :=
  (List.range ops.size).flatMap fun j => ((List.range j).filter fun i => !((ms.getD j 0).testBit i)).map fun i => (i, j)

def writes : MOp → Bool
  | .st .. | .cpy .. | .app .. | .app0 .. | .mks .. | .bsl .. | .box .. | .new .. => true
  | _ => false

def reads : MOp → Bool
  | .ld .. | .st .. | .cpy .. | .sla .. | .app .. => true
  | _ => false

def mayMeet (mi mj : MI) : Bool := (writes mi.op && (writes mj.op || reads mj.op)) || (reads mi.op && writes mj.op)

def pairOk (l : List MI) (f : MI → MI → Bool) (q : Nat × Nat) : Bool :=
  match l[q.1]?, l[q.2]? with
  | some a, some b => f a b
  | _, _ => true

/-- what writes comes behind each call -/
def callsFirst (l : List MI) (ms : List Nat) : Bool :=
  (List.range l.length).all fun k => (List.range l.length).all fun j =>
    match l[k]?, l[j]? with
    | some a, some b => !a.op.isCall || !writes b.op || (ms.getD j 0).testBit k
    | _, _ => true

theorem callsFirst_get {l : List MI} {ms : List Nat} (h : callsFirst l ms = true) {k j : Nat} {a b : MI} (ha : l[k]? = some a) (hb : l[j]? = some b) (hc : a.op.isCall = true) (hw : writes b.op = true) : (ms.getD j 0).testBit k = true := by
  unfold callsFirst at h
  rw [List.all_eq_true] at h
  have h1 := h k (by simpa using (List.getElem?_eq_some_iff.1 ha).1)
  rw [List.all_eq_true] at h1
  have h2 := h1 j (by simpa using (List.getElem?_eq_some_iff.1 hb).1)
  rw [ha, hb] at h2
  simpa [hc, hw] using h2

def isCallv : MOp → Bool
  | .callv .. | .mq _ => true
  | _ => false

/-- no call takes what the region makes -/
def noFresh (l : List MI) : Bool :=
  l.all fun m => !m.op.isCall || l.all fun n => !allocs n.op || (match n.dst with | some d => !(m.op.slots.contains d) | none => true)

/-- one operation at most makes a block, and no call takes it -/
def oneAlloc (l : List MI) : Bool := noFresh l &&
  (List.range l.length).all fun i => (List.range l.length).all fun j => match l[i]?, l[j]? with
    | some a, some b => !allocs a.op || !allocs b.op || decide (i = j)
    | _, _ => true
theorem oneAlloc_get {l : List MI} (h : oneAlloc l = true) {i j : Nat} {a b : MI} (ha : l[i]? = some a) (hb : l[j]? = some b) (h1 : allocs a.op = true) (h2 : allocs b.op = true) : i = j := by
  unfold oneAlloc at h
  rw [Bool.and_eq_true] at h
  have h := h.2
  rw [List.all_eq_true] at h
  have h3 := h i (by simpa using (List.getElem?_eq_some_iff.1 ha).1)
  rw [List.all_eq_true] at h3
  have h4 := h3 j (by simpa using (List.getElem?_eq_some_iff.1 hb).1)
  rw [ha, hb] at h4
  simpa [h1, h2] using h4

/-- a call of a function that hands back a slice: no quiet one -/
def slCall (P : Program) (m : MI) : Bool := match m.op with
  | .call f _ => match P.funcs[f]? with
    | some fn => fn.resultTypes.any fun t => match P.info? t with
      | some i => match i.desc with
        | .slice _ => true
        | _ => false
      | none => false
    | none => false
  | _ => false

def cDraw0 (P : Program) (N : Nat) (ops : Array Oper) : Option MC :=
  match cList P N ops (List.range ops.size) with
  | none => none
  | some l =>
    if edgesOk ops = true ∧ (unord ops (masks ops ops.size)).all (pairOk l slotOk) = true then
      if (l.all (fun m => !writes m.op && !isCallv m.op) = true ∧ l.any (slCall P) = true) ∧ (l.filter fun m => !pureOp m.op).length ≤ 14 then some (.dra ((lin (masks ops ops.size) (fun i => match l[i]? with | some m => pureOp m.op | none => false) ops.size ops.size []).map (pickM l)))
      else if l.all (fun m => !writes m.op && !isCallv m.op) = true then some (.drq l)
      else if l.all (fun m => !m.op.isCall) = true then some (.drw l ((unord ops (masks ops ops.size)).filter (pairOk l mayMeet)))
      else if (l.all (fun m => !allocs m.op && !isCallv m.op) = true ∧ l.any (slCall P) = true) ∧ (l.filter fun m => !pureOp m.op).length ≤ 10 then some (.dra ((lin (masks ops ops.size) (fun i => match l[i]? with | some m => pureOp m.op | none => false) ops.size ops.size []).map (pickM l)))
      else if l.all (fun m => !allocs m.op && !isCallv m.op) = true ∧ callsFirst l (masks ops ops.size) = true then some (.drc l ((unord ops (masks ops ops.size)).filter (pairOk l mayMeet)))
      else if (l.filter fun m => !pureOp m.op).length > 4 ∧ oneAlloc l = true then some (.drw l ((unord ops (masks ops ops.size)).filter (pairOk l mayMeet)))
      else if (l.filter fun m => !pureOp m.op).length ≤ 6 then some (.dra ((lin (masks ops ops.size) (fun i => match l[i]? with | some m => pureOp m.op | none => false) ops.size ops.size []).map (pickM l)))
      else if l.all (fun m => !writes m.op) = true then some (.drq l)
      else none
    else none

/-- what stands behind all that is ahead of it, up to the end: from here on the order is the text's -/
def cutAt (ms : List Nat) : Nat → Nat
  | 0 => 0
  | j + 1 => if ((List.range j).all fun i => (ms.getD j 0).testBit i) = true then cutAt ms j else j + 1

/-- a region that draws: as a whole, or as one that draws and what comes behind it in order -/
def cDraw (P : Program) (N : Nat) (ops : Array Oper) : Option MC :=
  match cDraw0 P N ops with
  | some c => some c
  | none => if edgesOk ops = true then
    match cDraw0 P N (ops.extract 0 (cutAt (masks ops ops.size) ops.size)), cList P N ops (List.range' (cutAt (masks ops ops.size) ops.size) (ops.size - cutAt (masks ops ops.size) ops.size)) with
    | some a, some l => some (.seq a (.reg l))
    | _, _ => none
    else none

def qops (P : Program) (Qt : FuncId → List AV → Option AV) : List MI → St → (St → Prop) → Prop
  | [], s, K => K s
  | m :: r, s, K => match dstep P Qt s.H.size m s with
    | some (v, H') => qops P Qt r (St.put ⟨s.τ, H'⟩ m.dst v) K
    | none => False

def pairsOk (fs : List (List Nat × List Nat)) : List (Nat × Nat) → Prop
  | [] => True
  | (i, j) :: r => (match fs[i]?, fs[j]? with
    | some (fi, ti), some (fj, tj) => (∀ id, id ∈ ti → id ∉ fj ++ tj) ∧ ∀ id, id ∈ tj → id ∉ fi
    | _, _ => False) ∧ pairsOk fs r

def dops (P : Program) (Qt : FuncId → List AV → Option AV) (base : Nat) : Nat → List MI → St → List (List Nat × List Nat) → List (Nat × Nat) → (St → Prop) → Prop
  | _, [], s, acc, prs, K => pairsOk acc prs ∧ K s
  | k, m :: r, s, acc, prs, K => match dstep P Qt (base + k) m s with
    | some (v, H') => dops P Qt base (k + 1) r (St.put ⟨s.τ, H'⟩ m.dst v) (acc ++ [(foot s.τ m.op, touch (base + k) s.τ m.op)]) prs K
    | none => False

/-- with a condition on what has been touched -/
def dopsC (P : Program) (Qt : FuncId → List AV → Option AV) (base : Nat) : Nat → List MI → St → List (List Nat × List Nat) → List (Nat × Nat) → (List (List Nat × List Nat) → Prop) → (St → Prop) → Prop
  | _, [], s, acc, prs, C, K => (pairsOk acc prs ∧ C acc) ∧ K s
  | k, m :: r, s, acc, prs, C, K => match dstep P Qt (base + k) m s with
    | some (v, H') => dopsC P Qt base (k + 1) r (St.put ⟨s.τ, H'⟩ m.dst v) (acc ++ [(foot s.τ m.op, touch (base + k) s.τ m.op)]) prs C K
    | none => False

theorem dopsC_of {P : Program} {Qt : FuncId → List AV → Option AV} {base : Nat} {C : List (List Nat × List Nat) → Prop} {K : St → Prop} {prs : List (Nat × Nat)} (hC : ∀ acc, C acc) : ∀ {l : List MI} {k : Nat} {s : St} {acc : List (List Nat × List Nat)}, dops P Qt base k l s acc prs K → dopsC P Qt base k l s acc prs C K
  | [], k, s, acc, h => ⟨⟨h.1, hC acc⟩, h.2⟩
  | m :: r, k, s, acc, h => by
    simp only [dops] at h
    simp only [dopsC]
    split at h
    · exact dopsC_of hC h
    · exact h.elim

/-- the same with calls -/
def cops (P : Program) (Qt : FuncId → List AV → Option AV) : List MI → St → List (List Nat × List Nat) → List (Nat × Nat) → (St → Prop) → Prop
  | [], s, acc, prs, K => pairsOk acc prs ∧ K s
  | m :: r, s, acc, prs, K => match dstep P Qt s.H.size m s with
    | some (v, H') => cops P Qt r (St.put ⟨s.τ, H'⟩ m.dst v) (acc ++ [(foot s.τ m.op, touch 0 s.τ m.op)]) prs K
    | none => False

def Heap.ext (H : Heap) (n : Nat) : Heap := ⟨H.size + n, H.get, H.ob⟩

def mdrq (P : Program) (l : List MI) (Q : Exit → St → Prop) (s : St) : Prop :=
  ∃ Qt, QtOk P Qt s.H ∧ qops P Qt l s (Q .normal)

/-- operations that make, write and call: of the calls is known what they return, in whatever memory that holds what the region doesn't touch -/
def mdrw (P : Program) (l : List MI) (prs : List (Nat × Nat)) (Q : Exit → St → Prop) (s : St) : Prop :=
  ∃ Qt, dopsC P Qt s.H.size 0 l ⟨s.τ, s.H.ext l.length⟩ [] prs (fun acc => ∀ H, (∀ id, (∀ f ∈ acc, id ∉ f.2) → H.get id = s.H.get id) → QtOk P Qt H) (Q .normal)

def mdrc (P : Program) (l : List MI) (prs : List (Nat × Nat)) (Q : Exit → St → Prop) (s : St) : Prop :=
  ∃ Qt, QtOk P Qt s.H ∧ cops P Qt l s [] prs (Q .normal)

/-- a region whose last operation defers a call -/
def cDfr (P : Program) (N : Nat) (ops : Array Oper) : Option MC :=
  match ops[ops.size - 1]? with
  | some { op := .defer c, guard := none, dst := d, .. } => match c.callee, cXs c.args.toList, cList P N ops (List.range (ops.size - 1)) with
    | .value x, some as, some l => match cX x with
      | some fx => if dstOk N d = true then some (.dfr N l d fx as) else none
      | none => none
    | _, _, _ => none
  | _ => none

def cCode (P : Program) (N : Nat) : Code → Option MC
  | .skip => some .skip
  | .region _ ops false => match cList P N ops (List.range ops.size) with
    | some l => some (.reg l)
    | none => cDfr P N ops
  | .region _ ops true => cDraw P N ops
  | .seq a b => match cCode P N a, cCode P N b with
    | some a, some b => some (.seq a b)
    | _, _ => none
  | .cond c a b => match cX c, cCode P N a, cCode P N b with
    | some c, some a, some b => some (.cond c a b)
    | _, _, _ => none
  | .block id a => (cCode P N a).map (.block id)
  | .loop a => (cCode P N a).map .loop
  | .scope a => (cCode P N a).map .scope
  | .label _ => some .skip
  | .exit id => some (.exit id)
  | .ret => some .ret
  | .rangeFunc g ps a b => match cX g, cCode P N a, cCode P N b with
    | some g, some a, some b => if a.flat = true ∧ b.flat = true ∧ ps.toList.all (fun p => decide (p < N)) = true then some (.rfunc g ps.toList a b) else none
    | _, _, _ => none
  | _ => none

def seqK (Q : Exit → St → Prop) (W : (Exit → St → Prop) → St → Prop) : Exit → St → Prop
  | .normal, s => W Q s
  | e, s => Q e s

def blockK (id : Nat) (Q : Exit → St → Prop) : Exit → St → Prop
  | .exit id', s => if id' = id then Q .normal s else Q (.exit id') s
  | e, s => Q e s

def scopeK (Q : Exit → St → Prop) : Exit → St → Prop
  | .goto _, _ => False
  | e, s => Q e s

def loopK (I : St → Prop) (μ : St → Nat) (m : Nat) (Q : Exit → St → Prop) : Exit → St → Prop
  | .normal, s => I s ∧ μ s < m
  | e, s => Q e s

def mloop (W : (Exit → St → Prop) → St → Prop) (Q : Exit → St → Prop) (s : St) : Prop :=
  ∃ (I : St → Prop) (μ : St → Nat), I s ∧ ∀ s', I s' → W (loopK I μ (μ s') Q) s'

def mcond (c : AV) (A B : (Exit → St → Prop) → St → Prop) (Q : Exit → St → Prop) (s : St) : Prop :=
  match c with
  | .bool b => (b = true → A Q s) ∧ (b = false → B Q s)
  | _ => False

/-- a loop's record in a state -/
def lst (o : OB) (st : LoopState) (pe : Option Code) : OB := ⟨{ o.lp with state := st, pending := pe }, o.τ, none⟩

def setp (τ : Nat → AV) : List Nat → List AV → Nat → AV
  | p :: ps, x :: xs => setp (upd τ p x) ps xs
  | _, _ => τ

def asgK (l : Nat) (o : OB) (W : St → Prop) : Exit → St → Prop
  | .normal, s => s.H.ob l = some (lst o .ready none) ∧ W ⟨s.τ, s.H.seto l (some (lst o .busy none))⟩
  | _, _ => False

def roundK (l : Nat) (o : OB) (R : Bool → Heap → Prop) : Exit → St → Prop
  | .normal, s => s.H.ob l = some (lst o .busy none) ∧ R true (s.H.seto l (some (lst o .ready none)))
  | .ret, s => s.H.ob l = some (lst o .busy none) ∧ R false (s.H.seto l (some (lst o .done (some .ret))))
  | .exit id, s => s.H.ob l = some (lst o .busy none) ∧ R false (s.H.seto l (some (lst o .done (some (.exit id)))))
  | _, _ => False

def jumpK (Q : Exit → St → Prop) (s : St) : Option Code → Prop
  | none => Q .normal s
  | some .ret => Q .ret s
  | some (.exit id) => Q (.exit id) s
  | _ => False

def endK (l : Nat) (o : OB) (τ : Nat → AV) (Q : Exit → St → Prop) (H : Heap) : Prop :=
  ∃ st pe, H.ob l = some (lst o st pe) ∧ st ≠ .busy ∧ jumpK Q ⟨τ, H.seto l none⟩ pe

/-- a range over a function -/
def mrfunc (P : Program) (v : AV) (ps : List Nat) (A B : (Exit → St → Prop) → St → Prop) (Q : Exit → St → Prop) (s : St) : Prop :=
  match v with
  | .func f caps => Callable P f ∧ ∀ o : OB, o.τ = s.τ → s.H.ob s.H.size = none →
      (∀ (xs : List AV) (H : Heap) (R : Bool → Heap → Prop), xs.length = ps.length → H.ob s.H.size = some (lst o .ready none) →
        A (asgK s.H.size o (B (roundK s.H.size o R))) ⟨setp s.τ ps xs, H⟩ → AYield P s.H.size xs H R) →
      ∃ R, ACalls P f (.yld s.H.size :: caps) (s.H.newo (lst o .ready none)) R ∧ ∀ r H', R r H' → endK s.H.size o s.τ Q H'
  | _ => False

/-- a call is deferred: it is laid ahead of those that are deferred already -/
def dfrK (n : Nat) (d : Option Nat) (fx : MX) (args : List MX) (K : St → Prop) (s : St) : Prop :=
  match fx.ev s.τ with
  | .func f cs => K (St.put ⟨upd s.τ n (.dfl (.agg (.func f [] :: (args.map (·.ev s.τ) ++ cs)) :: tupL (s.τ n))), s.H⟩ d (.tuple []))
  | .bound f x => K (St.put ⟨upd s.τ n (.dfl (.agg (.func f [] :: x :: args.map (·.ev s.τ)) :: tupL (s.τ n))), s.H⟩ d (.tuple []))
  | _ => False

def mwp (P : Program) : MC → (Exit → St → Prop) → St → Prop
  | .skip, Q, s => Q .normal s
  | .reg l, Q, s => mops P l s (Q .normal)
  | .drq l, Q, s => mdrq P l Q s
  | .drw l prs, Q, s => mdrw P l prs Q s
  | .drc l prs, Q, s => mdrc P l prs Q s
  | .dra ls, Q, s => ∀ l ∈ ls, mops P l s (Q .normal)
  | .seq a b, Q, s => mwp P a (seqK Q (mwp P b)) s
  | .cond c a b, Q, s => mcond (c.ev s.τ) (mwp P a) (mwp P b) Q s
  | .block id a, Q, s => mwp P a (blockK id Q) s
  | .loop a, Q, s => mloop (mwp P a) Q s
  | .scope a, Q, s => mwp P a (scopeK Q) s
  | .exit id, Q, s => Q (.exit id) s
  | .ret, Q, s => Q .ret s
  | .rfunc g ps a b, Q, s => mrfunc P (g.ev s.τ) ps (mwp P a) (mwp P b) Q s
  | .dfr n l d fx args, Q, s => mops P l s (dfrK n d fx args (Q .normal))


theorem dstep_nid {P : Program} {Qt : FuncId → List AV → Option AV} {m : MI} (h : allocs m.op = false) (nid nid' : Nat) (s : St) : dstep P Qt nid m s = dstep P Qt nid' m s := by
  unfold dstep
  split
  · rfl
  · rfl
  · split
    · rfl
    · exact nid_any h nid nid' _ _

theorem writes_quiet {m : MOp} (h : writes m = false) : allocs m = false ∧ ∀ nid τ, touch nid τ m = [] := by
  cases m <;> simp [writes] at h <;> exact ⟨rfl, fun _ _ => rfl⟩

theorem dstep_quiet {P : Program} {Qt : FuncId → List AV → Option AV} {nid : Nat} {m : MI} (hw : writes m.op = false) {s : St} {v : AV} {H' : Heap} (h : dstep P Qt nid m s = some (v, H')) : H' = s.H := by
  obtain ⟨h1, h2⟩ := writes_quiet hw
  obtain ⟨_, _, _, e1, _, _, e2⟩ := dstep_local (s2 := s) h (fun ha => by rw [h1] at ha; cases ha) rfl (fun _ _ => rfl) (fun _ _ => rfl)
  have : H'.get = s.H.get := by funext id; exact e2 id (by rw [h2]; simp)
  have e3 := dstep_ob h
  cases H' with
  | mk a b a3 =>
    cases hs : s.H with
    | mk c d c3 =>
      rw [hs] at e1 this e3
      simp only at e1 this e3
      rw [e1, this, e3]

theorem text_of_qops {P : Program} {Qt : FuncId → List AV → Option AV} {K : St → Prop} (base : Nat) : ∀ (l : List MI) (s : St) (k : Nat), (∀ m ∈ l, writes m.op = false) → qops P Qt l s K →
    ∃ (ST : Nat → St) (V : Nat → AV) (HH : Nat → Heap), ST k = s ∧ (∀ (j : Nat) (m : MI), l[j]? = some m → dstep P Qt (base + (k + j)) m (ST (k + j)) = some (V (k + j), HH (k + j)) ∧ ST (k + j + 1) = St.put ⟨(ST (k + j)).τ, HH (k + j)⟩ m.dst (V (k + j))) ∧
      K (ST (k + l.length)) ∧ ∀ j, j ≤ l.length → (ST (k + j)).H = s.H
  | [], s, k, _, h => ⟨fun _ => s, fun _ => .any, fun _ => s.H, rfl, by simp, h, by intro j hj; rfl⟩
  | m :: r, s, k, hw, h => by
    simp only [qops] at h
    split at h
    · rename_i v H' hd
      have hwm := hw m (by simp)
      have hH := dstep_quiet hwm hd
      obtain ⟨ST, V, HH, h1, h2, h3, h4⟩ := text_of_qops base r _ (k + 1) (fun m' hm' => hw m' (by simp [hm'])) h
      refine ⟨fun n => if n = k then s else ST n, fun n => if n = k then v else V n, fun n => if n = k then H' else HH n, by simp, ?_, ?_, ?_⟩
      · intro j m' hj
        cases j with
        | zero =>
          simp at hj; subst hj
          simp only [Nat.add_zero, if_true]
          refine ⟨by rw [dstep_nid (writes_quiet hwm).1 _ s.H.size]; exact hd, ?_⟩
          rw [if_neg (by omega)]; exact h1
        | succ j =>
          simp at hj
          have := h2 j m' hj
          dsimp only
          rw [if_neg (by omega), if_neg (by omega), if_neg (by omega), if_neg (by omega)]
          have e : k + (j + 1) = k + 1 + j := by omega
          rw [e]; exact this
      · dsimp only
        rw [if_neg (by simp)]
        have e : k + (m :: r).length = k + 1 + r.length := by simp; omega
        rw [e]; exact h3
      · intro j hj
        cases j with
        | zero => simp
        | succ j =>
          dsimp only
          rw [if_neg (by omega)]
          have e : k + (j + 1) = k + 1 + j := by omega
          rw [e, h4 j (by simpa using hj), put_H, hH]
    · exact h.elim

theorem text_of_dops {P : Program} {Qt : FuncId → List AV → Option AV} {K : St → Prop} {base : Nat} {prs : List (Nat × Nat)} {C : List (List Nat × List Nat) → Prop} : ∀ (l : List MI) (s : St) (k : Nat) (acc : List (List Nat × List Nat)), acc.length = k → dopsC P Qt base k l s acc prs C K →
    ∃ (ST : Nat → St) (V : Nat → AV) (HH : Nat → Heap) (fs : List (List Nat × List Nat)), ST k = s ∧ (∀ (j : Nat) (m : MI), l[j]? = some m → dstep P Qt (base + (k + j)) m (ST (k + j)) = some (V (k + j), HH (k + j)) ∧ ST (k + j + 1) = St.put ⟨(ST (k + j)).τ, HH (k + j)⟩ m.dst (V (k + j))) ∧
      K (ST (k + l.length)) ∧ (pairsOk (acc ++ fs) prs ∧ C (acc ++ fs)) ∧ ∀ (j : Nat) (m : MI), l[j]? = some m → fs[j]? = some (foot (ST (k + j)).τ m.op, touch (base + (k + j)) (ST (k + j)).τ m.op)
  | [], s, k, acc, ha, h => ⟨fun _ => s, fun _ => .any, fun _ => s.H, [], rfl, by simp, h.2, by simpa using h.1, by simp⟩
  | m :: r, s, k, acc, ha, h => by
    simp only [dopsC] at h
    split at h
    · rename_i v H' hd
      obtain ⟨ST, V, HH, fs, h1, h2, h3, h4, h5⟩ := text_of_dops r _ (k + 1) _ (by simp [ha]) h
      refine ⟨fun n => if n = k then s else ST n, fun n => if n = k then v else V n, fun n => if n = k then H' else HH n, (foot s.τ m.op, touch (base + k) s.τ m.op) :: fs, by simp, ?_, ?_, ?_, ?_⟩
      · intro j m' hj
        cases j with
        | zero =>
          simp at hj; subst hj
          simp only [Nat.add_zero, if_true]
          refine ⟨hd, ?_⟩
          rw [if_neg (by omega)]; exact h1
        | succ j =>
          simp at hj
          have := h2 j m' hj
          dsimp only
          rw [if_neg (by omega), if_neg (by omega), if_neg (by omega), if_neg (by omega)]
          have e : k + (j + 1) = k + 1 + j := by omega
          rw [e]; exact this
      · dsimp only
        rw [if_neg (by simp)]
        have e : k + (m :: r).length = k + 1 + r.length := by simp; omega
        rw [e]; exact h3
      · simpa using h4
      · intro j m' hj
        cases j with
        | zero => simp at hj; subst hj; simp
        | succ j =>
          simp at hj
          have := h5 j m' hj
          simp only [List.getElem?_cons_succ]
          rw [if_neg (by omega)]
          have e : k + (j + 1) = k + 1 + j := by omega
          rw [e]; exact this
    · exact h.elim

theorem touch_nid {m : MOp} (h : allocs m = false) (nid nid' : Nat) (τ : Nat → AV) : touch nid τ m = touch nid' τ m := by
  cases m <;> simp [allocs] at h <;> rfl

theorem text_of_cops {P : Program} {Qt : FuncId → List AV → Option AV} {K : St → Prop} {base : Nat} {prs : List (Nat × Nat)} : ∀ (l : List MI) (s : St) (k : Nat) (acc : List (List Nat × List Nat)), (∀ m ∈ l, allocs m.op = false) → acc.length = k → cops P Qt l s acc prs K →
    ∃ (ST : Nat → St) (V : Nat → AV) (HH : Nat → Heap) (fs : List (List Nat × List Nat)), ST k = s ∧ (∀ (j : Nat) (m : MI), l[j]? = some m → dstep P Qt (base + (k + j)) m (ST (k + j)) = some (V (k + j), HH (k + j)) ∧ ST (k + j + 1) = St.put ⟨(ST (k + j)).τ, HH (k + j)⟩ m.dst (V (k + j))) ∧
      K (ST (k + l.length)) ∧ pairsOk (acc ++ fs) prs ∧ ∀ (j : Nat) (m : MI), l[j]? = some m → fs[j]? = some (foot (ST (k + j)).τ m.op, touch (base + (k + j)) (ST (k + j)).τ m.op)
  | [], s, k, acc, hal, ha, h => ⟨fun _ => s, fun _ => .any, fun _ => s.H, [], rfl, by simp, h.2, by simpa using h.1, by simp⟩
  | m :: r, s, k, acc, hal, ha, h => by
    simp only [cops] at h
    split at h
    · rename_i v H' hd
      have ham := hal m (by simp)
      obtain ⟨ST, V, HH, fs, h1, h2, h3, h4, h5⟩ := text_of_cops (base := base) r _ (k + 1) _ (fun m' hm' => hal m' (by simp [hm'])) (by simp [ha]) h
      refine ⟨fun n => if n = k then s else ST n, fun n => if n = k then v else V n, fun n => if n = k then H' else HH n, (foot s.τ m.op, touch 0 s.τ m.op) :: fs, by simp, ?_, ?_, ?_, ?_⟩
      · intro j m' hj
        cases j with
        | zero =>
          simp at hj; subst hj
          simp only [Nat.add_zero, if_true]
          refine ⟨by rw [dstep_nid ham _ s.H.size]; exact hd, ?_⟩
          rw [if_neg (by omega)]; exact h1
        | succ j =>
          simp at hj
          have := h2 j m' hj
          dsimp only
          rw [if_neg (by omega), if_neg (by omega), if_neg (by omega), if_neg (by omega)]
          have e : k + (j + 1) = k + 1 + j := by omega
          rw [e]; exact this
      · dsimp only
        rw [if_neg (by simp)]
        have e : k + (m :: r).length = k + 1 + r.length := by simp; omega
        rw [e]; exact h3
      · simpa using h4
      · intro j m' hj
        cases j with
        | zero => simp at hj; subst hj; simp [touch_nid ham 0 (base + k)]
        | succ j =>
          simp at hj
          have := h5 j m' hj
          simp only [List.getElem?_cons_succ]
          rw [if_neg (by omega)]
          have e : k + (j + 1) = k + 1 + j := by omega
          rw [e]; exact this
    · exact h.elim

theorem unord_mem {ops : Array Oper} {ms : List Nat} {i j : Nat} (hij : i < j) (hj : j < ops.size) (hb : (ms.getD j 0).testBit i = false) : (i, j) ∈ unord ops ms := by
  unfold unord
  rw [List.mem_flatMap]
  refine ⟨j, by simpa using hj, ?_⟩
  rw [List.mem_map]
  refine ⟨i, ?_, rfl⟩
  rw [List.mem_filter]
  exact ⟨by simpa using hij, by rw [hb]; rfl⟩

theorem slotOk_d {mi mj : MI} (h : slotOk mi mj = true) : (∀ d, mi.dst = some d → d ∉ mj.slots ∧ mj.dst ≠ some d) ∧ ∀ d, mj.dst = some d → d ∉ mi.slots := by
  unfold slotOk at h
  rw [Bool.and_eq_true] at h
  constructor
  · intro d hd
    have := h.1
    rw [hd] at this
    simpa using this
  · intro d hd
    have := h.2
    rw [hd] at this
    simpa using this

theorem pairsOk_get {fs : List (List Nat × List Nat)} : ∀ {prs : List (Nat × Nat)} {i j : Nat} {fi ti fj tj : List Nat}, pairsOk fs prs → (i, j) ∈ prs → fs[i]? = some (fi, ti) → fs[j]? = some (fj, tj) →
    (∀ id, id ∈ ti → id ∉ fj ++ tj) ∧ ∀ id, id ∈ tj → id ∉ fi
  | [], _, _, _, _, _, _, _, h, _, _ => by simp at h
  | (a, b) :: r, i, j, fi, ti, fj, tj, h, hm, h1, h2 => by
    simp only [pairsOk] at h
    rcases List.mem_cons.1 hm with he | hm
    · injection he with e1 e2; subst e1; subst e2
      rw [h1, h2] at h
      exact h.1
    · exact pairsOk_get h.2 hm h1 h2

theorem foot_quiet {m : MOp} (h : reads m = false) (τ : Nat → AV) : foot τ m = [] := by
  cases m <;> simp [reads] at h <;> rfl

theorem reads_or {m : MOp} (hr : reads m = false) (hw : writes m = false) (nid : Nat) (τ : Nat → AV) : foot τ m ++ touch nid τ m = [] := by
  rw [foot_quiet hr, (writes_quiet hw).2]; rfl

theorem HRel.ext {ι : Nat → Option Ref} {H : Heap} {w : World} (h : HRel ι H w) (n : Nat) : HRel ι (H.ext n) w :=
  ⟨fun id hid => h.fresh id (by simp only [Heap.ext] at hid; omega), h.blk, h.apart, h.obs, h.oapart, h.gl⟩

theorem HExt.ext_left {ι ι' : Nat → Option Ref} {H H' : Heap} {w w' : World} {n : Nat} (h : HExt ι (H.ext n) w ι' H' w') : HExt ι H w ι' H' w' :=
  ⟨h.le, by have := h.size; simp only [Heap.ext] at this; omega, h.wsize, h.os, h.tape, h.output, h.rows, h.news, h.newo⟩

theorem valid_len {ops : Array Oper} {l : List Nat} (hv : Valid ops l) : l.length = ops.size := by
  have h1 : l.Perm (List.range ops.size) := (List.perm_ext_iff_of_nodup hv.nodup List.nodup_range).2 fun i => by rw [hv.all i, List.mem_range]
  simpa using h1.length_eq

theorem cIdx_sub {P : Program} {N : Nat} {ops opsF : Array Oper} (hsub : ∀ (i : Nat) (o : Oper), ops[i]? = some o → opsF[i]? = some o) {i : Nat} {m : MI} (h : cIdx P N ops i = some m) : cIdx P N opsF i = some m := by
  cases ho : ops[i]? with
  | none => simp [cIdx, ho] at h
  | some o =>
    cases hop : cOp P o with
    | none => simp [cIdx, ho, hop] at h
    | some op =>
      cases hg : o.guard with
      | none =>
        simp only [cIdx, ho, hop, hg] at h
        simp only [cIdx, hsub i o ho, hop, hg]
        exact h
      | some q =>
        obtain ⟨j, want⟩ := q
        simp only [cIdx, ho, hop, hg] at h
        simp only [cIdx, hsub i o ho, hop, hg]
        split at h
        · rename_i hd
          rw [if_pos hd]
          split at h
          · rename_i t ht
            rw [Option.bind_eq_some_iff] at ht
            obtain ⟨oj, hoj, hdj⟩ := ht
            have : (opsF[j]?).bind (·.dst) = some t := by rw [hsub j oj hoj]; exact hdj
            simp only [this]; exact h
          · cases h
        · cases h

theorem mone_congr {P : Program} {m : MI} {s : St} {M M' : St → (St → Prop) → Prop} {K K' : St → Prop} (h : ∀ s, M s K = M' s K') : mone P m s M K = mone P m s M' K' := by
  have hx : mexec P m.op m.dst s M K = mexec P m.op m.dst s M' K' := by
    unfold mexec mcall
    simp only [h]
  unfold mone
  simp only [hx, h]

theorem mops_append {P : Program} {K : St → Prop} : ∀ (l r : List MI) (s : St), mops P (l ++ r) s K = mops P l s (fun s' => mops P r s' K)
  | [], r, s => rfl
  | m :: l, r, s => by
    simp only [List.cons_append, mops]
    exact mone_congr fun s' => mops_append l r s'

/-- a region that draws, whatever it draws -/
theorem draw_order {ro : Option Nat} {P : Program} {B : Bs} {N : Nat} {ops opsF : Array Oper} {mc : MC} {suf order : List Nat} {sl : List MI} (hsub : ∀ (i : Nat) (o : Oper), ops[i]? = some o → opsF[i]? = some o) (hc : cDraw0 P N ops = some mc) (hsl : cList P N opsF suf = some sl) {Q : Exit → St → Prop} {s : St} (h : mwp P mc (seqK Q fun Q s => mops P sl s (Q .normal)) s) (hv : Valid ops order) {ι : Nat → Option Ref} {a : Act} {w : World} (hr : Rel B N s ι a w) :
    wpOpsIn (fR ro) 0 P opsF (Post B N s ι w Q) (order ++ suf) a { w with drawn := w.drawn + 1 } := by
  have hend : ∀ (s' : St), mops P sl s' (Q .normal) → ∀ ι' a' w', Rel B N s' ι' a' w' → HExt ι s.H w ι' s'.H w' → wpOpsIn (fR ro) 0 P opsF (Post B N s ι w Q) suf a' w' := fun s' h' ι' a' w' hr' he' => ops_sound suf sl s' ι' a' w' hsl h' hr' he'
  unfold cDraw0 at hc
  split at hc
  · cases hc
  rename_i l hl
  split at hc
  rotate_left
  · cases hc
  rename_i hok
  obtain ⟨hok1, hok2⟩ := hok
  have hml : l.length = ops.size := by simpa using (cList_get hl).1
  rw [List.all_eq_true] at hok2
  have hslot : ∀ (i j : Nat) (mi mj : MI), i < j → l[i]? = some mi → l[j]? = some mj → ((masks ops ops.size).getD j 0).testBit i = false → slotOk mi mj = true := by
    intro i j mi mj hij hi hj hb
    have hjl : j < ops.size := by rw [← hml]; exact (List.getElem?_eq_some_iff.1 hj).1
    have := hok2 (i, j) (unord_mem hij hjl hb)
    simpa [pairOk, hi, hj] using this
  have hr' : Rel B N s ι a { w with drawn := w.drawn + 1 } := ⟨hr.defers.drew, hr.big, hr.size, hr.tmps, hr.heap.drew 1⟩
  have hE : HExt ι s.H w ι s.H { w with drawn := w.drawn + 1 } := HExt.drew 1
  have drqc : (∀ m ∈ l, writes m.op = false) → mwp P (.drq l) (seqK Q fun Q s => mops P sl s (Q .normal)) s → wpOpsIn (fR ro) 0 P opsF (Post B N s ι w Q) (order ++ suf) a { w with drawn := w.drawn + 1 } := by
    intro hw h
    simp only [mwp, mdrq] at h
    obtain ⟨Qt, hQt, hops⟩ := h
    obtain ⟨ST, V, HH, h1, h2, h3, h4⟩ := text_of_qops s.H.size l s 0 hw hops
    simp only [Nat.zero_add] at h2 h3 h4
    have hwg : ∀ (k : Nat) (m : MI), l[k]? = some m → writes m.op = false := fun k m hm => hw m (List.mem_of_getElem? hm)
    refine draw_go (opsF := opsF) (suf := suf) hsub (base := s.H.size) (s0 := s) (ST := ST) (V := V) (HH := HH) (Qt := Qt) hl ⟨h1, h2⟩ (fun k hk => by rw [h4 k (by omega)]) ?_ ?_ ?_ (fun ι' a' w' hr' he' => hend _ (by rw [← hml]; exact h3) ι' a' w' hr' he') hv _ [] s ι a _ rfl ?_ ?_ rfl rfl ?_ hr' hE
    · intro k m hm ha; rw [(writes_quiet (hwg k m hm)).1] at ha; cases ha
    · intro i j mi mj hij hi hj hb
      obtain ⟨d1, d2⟩ := slotOk_d (hslot i j mi mj hij hi hj hb)
      exact ⟨d1, d2, by rw [(writes_quiet (hwg i mi hi)).2]; simp, by rw [(writes_quiet (hwg j mj hj)).2]; simp⟩
    · intro k m hm hop
      exact .inl ⟨hQt, fun j mj hj => ⟨(writes_quiet (hwg j mj hj)).1, .inl (writes_quiet (hwg j mj hj)).2⟩⟩
    · have key : ∀ n, s.τ = mix (Eτ l V) (fun k => decide (k ∈ ([] : List Nat))) s.τ n := by
        intro n; induction n with
        | zero => rfl
        | succ n ih => simp only [mix]; simpa using ih
      exact key _
    · have key : ∀ n, s.H.get = mix (EH s.H.size l ST HH) (fun k => decide (k ∈ ([] : List Nat))) s.H.get n := by
        intro n; induction n with
        | zero => rfl
        | succ n ih => simp only [mix]; simpa using ih
      exact key _
    · intro k m hm ha; rw [(writes_quiet (hwg k m hm)).1] at ha; cases ha
  have drwc : (l.all (fun m => !m.op.isCall) = true ∨ oneAlloc l = true) → mwp P (.drw l ((unord ops (masks ops ops.size)).filter (pairOk l mayMeet))) (seqK Q fun Q s => mops P sl s (Q .normal)) s → wpOpsIn (fR ro) 0 P opsF (Post B N s ι w Q) (order ++ suf) a { w with drawn := w.drawn + 1 } := by
    intro hcond h
    simp only [mwp, mdrw] at h
    obtain ⟨Qt, h⟩ := h
    obtain ⟨ST, V, HH, fs, h1, h2, h3, ⟨h4, hCt⟩, h5⟩ := text_of_dops l _ 0 [] rfl h
    simp only [List.nil_append] at hCt
    simp only [Nat.zero_add, List.nil_append] at h2 h3 h4 h5
    have hsz : ∀ k, k ≤ ops.size → (ST k).H.size = s.H.size + l.length := by
      intro k
      induction k with
      | zero => intro _; rw [h1]; rfl
      | succ k ih =>
        intro hk
        have hk' : k < l.length := by omega
        obtain ⟨g1, g2⟩ := h2 k l[k] (List.getElem?_eq_getElem hk')
        obtain ⟨_, _, _, e, _⟩ := dstep_local (s2 := ST k) g1 (fun _ => by rw [ih (by omega)]; omega) rfl (fun _ _ => rfl) (fun _ _ => rfl)
        rw [g2, put_H, e, ih (by omega)]
    have hr2 : Rel B N ⟨s.τ, s.H.ext l.length⟩ ι a { w with drawn := w.drawn + 1 } := ⟨hr'.defers, hr'.big, hr'.size, hr'.tmps, hr'.heap.ext _⟩
    have hE2 : HExt ι s.H w ι (s.H.ext l.length) { w with drawn := w.drawn + 1 } := ⟨hE.le, by simp [Heap.ext], hE.wsize, hE.os, hE.tape, hE.output, hE.rows, hE.news, hE.newo⟩
    refine draw_go (opsF := opsF) (suf := suf) hsub (base := s.H.size) (s0 := ⟨s.τ, s.H.ext l.length⟩) (ST := ST) (V := V) (HH := HH) (Qt := Qt) (sB := s) (ιB := ι) hl ⟨h1, h2⟩ (fun k hk => by rw [hsz k hk]; rfl) ?_ ?_ ?_ (fun ι' a' w' hr' he' => hend _ (by rw [← hml]; exact h3) ι' a' w' hr' he') hv _ [] ⟨s.τ, s.H.ext l.length⟩ ι a _ rfl ?_ ?_ rfl rfl ?_ hr2 hE2
    · intro k m hm ha
      have := (List.getElem?_eq_some_iff.1 hm).1
      simp only [Heap.ext]; omega
    · intro i j mi mj hij hi hj hb
      obtain ⟨d1, d2⟩ := slotOk_d (hslot i j mi mj hij hi hj hb)
      have hjl : j < ops.size := by rw [← hml]; exact (List.getElem?_eq_some_iff.1 hj).1
      have hun := unord_mem hij hjl hb
      cases hmm : mayMeet mi mj with
      | true =>
        have hin : (i, j) ∈ (unord ops (masks ops ops.size)).filter (pairOk l mayMeet) := by
          rw [List.mem_filter]; exact ⟨hun, by simp [pairOk, hi, hj, hmm]⟩
        obtain ⟨g1, g2⟩ := pairsOk_get h4 hin (h5 i mi hi) (h5 j mj hj)
        exact ⟨d1, d2, g1, g2⟩
      | false =>
        unfold mayMeet at hmm
        simp only [Bool.or_eq_false_iff, Bool.and_eq_false_iff] at hmm
        obtain ⟨m1, m2⟩ := hmm
        refine ⟨d1, d2, ?_, ?_⟩
        · intro id hid
          rcases m1 with m1 | m1
          · rw [(writes_quiet m1).2] at hid; simp at hid
          · rw [reads_or m1.2 m1.1]; simp
        · intro id hid
          rcases m2 with m2 | m2
          · rw [foot_quiet m2]; simp
          · rw [(writes_quiet m2).2] at hid; simp at hid
    · intro k m hm hop
      rcases hcond with hnc | hone
      · rw [List.all_eq_true] at hnc
        have := hnc m (List.mem_of_getElem? hm)
        rw [hop] at this
        simp at this
      · refine .inr ⟨fun H hH => hCt H fun id hid => hH id fun k m hm => ?_, by simp [Heap.ext, hml], fun i j mi mj hi hj h1 h2 => oneAlloc_get hone hi hj h1 h2⟩
        exact hid _ (List.mem_of_getElem? (h5 k m hm))
    · have key : ∀ n, s.τ = mix (Eτ l V) (fun k => decide (k ∈ ([] : List Nat))) s.τ n := by
        intro n; induction n with
        | zero => rfl
        | succ n ih => simp only [mix]; simpa using ih
      exact key _
    · have key : ∀ n, (s.H.ext l.length).get = mix (EH s.H.size l ST HH) (fun k => decide (k ∈ ([] : List Nat))) (s.H.ext l.length).get n := by
        intro n; induction n with
        | zero => rfl
        | succ n ih => simp only [mix]; simpa using ih
      exact key _
    · intro ka ma hma haa hka k m hm hk
      exact hr.heap.fresh _ (by omega)
  have drac : mwp P (.dra ((lin (masks ops ops.size) (fun i => match l[i]? with | some m => pureOp m.op | none => false) ops.size ops.size []).map (pickM l))) (seqK Q fun Q s => mops P sl s (Q .normal)) s → wpOpsIn (fR ro) 0 P opsF (Post B N s ι w Q) (order ++ suf) a { w with drawn := w.drawn + 1 } := by
    intro h
    simp only [mwp] at h
    obtain ⟨o, ho1, ho2⟩ := lin_ok (P := P) hml hslot ops.size [] order (valid_len hv) (fun i hi => .inr ((hv.all i).2 hi)) (fun i hi => ⟨(hv.all i).1 hi, by simp⟩) hv.nodup (fun p j q hpq i hi hb => .inr (by
      have hjn : j < ops.size := (hv.all j).1 (by rw [hpq]; simp)
      exact before_in hv j hjn p q hpq i hb))
    have hcl : ∀ r : List Nat, (∀ i ∈ r, i < ops.size) → cList P N opsF (r ++ suf) = some (pickM l r ++ sl) := by
      intro r
      induction r with
      | nil => intro _; exact hsl
      | cons i r ih =>
        intro hr
        obtain ⟨m, hm, hc⟩ := (cList_get hl).2 i i (by rw [List.getElem?_range (hr i (by simp))])
        simp only [List.cons_append, cList, cIdx_sub hsub hc, ih (fun j hj => hr j (by simp [hj]))]
        simp [pickM, hm]
    refine ops_sound _ _ s ι a _ (hcl _ fun i hi => (hv.all i).1 hi) ?_ hr' hE
    rw [mops_append]
    exact ho2 s _ (h _ (List.mem_map.2 ⟨o, ho1, rfl⟩))
  split at hc
  · simp only [Option.some.injEq] at hc; subst hc
    exact drac h
  split at hc
  · rename_i hq
    simp only [Option.some.injEq] at hc; subst hc
    rw [List.all_eq_true] at hq
    exact drqc (fun m hm => by have := hq m hm; simp only [Bool.and_eq_true, Bool.not_eq_true'] at this; exact this.1) h
  · split at hc
    rotate_left
    · split at hc
      · simp only [Option.some.injEq] at hc; subst hc
        exact drac h
      split at hc
      rotate_left
      · split at hc
        · rename_i hone
          simp only [Option.some.injEq] at hc; subst hc
          exact drwc (.inr hone.2) h
        split at hc
        rotate_left
        · split at hc
          rotate_left
          · cases hc
          rename_i hq
          simp only [Option.some.injEq] at hc; subst hc
          rw [List.all_eq_true] at hq
          exact drqc (fun m hm => by simpa using hq m hm) h
        simp only [Option.some.injEq] at hc; subst hc
        exact drac h
      rename_i hcf
      obtain ⟨hna, hcf⟩ := hcf
      simp only [Option.some.injEq] at hc; subst hc
      rw [List.all_eq_true] at hna
      have hna' : ∀ m ∈ l, allocs m.op = false := fun m hm => by have := hna m hm; simp only [Bool.and_eq_true, Bool.not_eq_true'] at this; exact this.1
      have hnag : ∀ (k : Nat) (m : MI), l[k]? = some m → allocs m.op = false := fun k m hm => hna' m (List.mem_of_getElem? hm)
      simp only [mwp, mdrc] at h
      obtain ⟨Qt, hQt, hops⟩ := h
      obtain ⟨ST, V, HH, fs, h1, h2, h3, h4, h5⟩ := text_of_cops (base := s.H.size) l s 0 [] hna' rfl hops
      simp only [Nat.zero_add, List.nil_append] at h2 h3 h4 h5
      have hsz : ∀ k, k ≤ ops.size → (ST k).H.size = s.H.size := by
        intro k
        induction k with
        | zero => intro _; rw [h1]
        | succ k ih =>
          intro hk
          have hk' : k < l.length := by omega
          obtain ⟨g1, g2⟩ := h2 k l[k] (List.getElem?_eq_getElem hk')
          obtain ⟨_, _, _, e, _⟩ := dstep_local (s2 := ST k) g1 (fun ha => by rw [hnag k _ (List.getElem?_eq_getElem hk')] at ha; cases ha) rfl (fun _ _ => rfl) (fun _ _ => rfl)
          rw [g2, put_H, e, ih (by omega)]
      refine draw_go (opsF := opsF) (suf := suf) hsub (base := s.H.size) (s0 := s) (ST := ST) (V := V) (HH := HH) (Qt := Qt) hl ⟨h1, h2⟩ hsz ?_ ?_ ?_ (fun ι' a' w' hr' he' => hend _ (by rw [← hml]; exact h3) ι' a' w' hr' he') hv _ [] s ι a _ rfl ?_ ?_ rfl rfl ?_ hr' hE
      · intro k m hm ha; rw [hnag k m hm] at ha; cases ha
      · intro i j mi mj hij hi hj hb
        obtain ⟨d1, d2⟩ := slotOk_d (hslot i j mi mj hij hi hj hb)
        have hjl : j < ops.size := by rw [← hml]; exact (List.getElem?_eq_some_iff.1 hj).1
        have hun := unord_mem hij hjl hb
        cases hmm : mayMeet mi mj with
        | true =>
          have hin : (i, j) ∈ (unord ops (masks ops ops.size)).filter (pairOk l mayMeet) := by
            rw [List.mem_filter]; exact ⟨hun, by simp [pairOk, hi, hj, hmm]⟩
          obtain ⟨g1, g2⟩ := pairsOk_get h4 hin (h5 i mi hi) (h5 j mj hj)
          exact ⟨d1, d2, g1, g2⟩
        | false =>
          unfold mayMeet at hmm
          simp only [Bool.or_eq_false_iff, Bool.and_eq_false_iff] at hmm
          obtain ⟨m1, m2⟩ := hmm
          refine ⟨d1, d2, ?_, ?_⟩
          · intro id hid
            rcases m1 with m1 | m1
            · rw [(writes_quiet m1).2] at hid; simp at hid
            · rw [reads_or m1.2 m1.1]; simp
          · intro id hid
            rcases m2 with m2 | m2
            · rw [foot_quiet m2]; simp
            · rw [(writes_quiet m2).2] at hid; simp at hid
      · intro k m hm hop
        refine .inl ⟨hQt, fun j mj hj => ⟨hnag j mj hj, ?_⟩⟩
        cases hw : writes mj.op with
        | false => exact .inl (writes_quiet hw).2
        | true => exact .inr (callsFirst_get hcf hm hj hop hw)
      · have key : ∀ n, s.τ = mix (Eτ l V) (fun k => decide (k ∈ ([] : List Nat))) s.τ n := by
          intro n; induction n with
          | zero => rfl
          | succ n ih => simp only [mix]; simpa using ih
        exact key _
      · have key : ∀ n, s.H.get = mix (EH s.H.size l ST HH) (fun k => decide (k ∈ ([] : List Nat))) s.H.get n := by
          intro n; induction n with
          | zero => rfl
          | succ n ih => simp only [mix]; simpa using ih
        exact key _
      · intro k m hm ha; rw [hnag k m hm] at ha; cases ha
    rename_i hnc
    simp only [Option.some.injEq] at hc; subst hc
    exact drwc (.inl hnc) h

theorem masks_take {ops opsK : Array Oper} {k : Nat} (hk : ∀ i, i < k → opsK[i]? = ops[i]?) : ∀ j, j ≤ k → masks opsK j = masks ops j
  | 0, _ => rfl
  | j + 1, h => by
    simp only [masks, masks_take hk j (by omega), hk j (by omega)]

/-- a valid order of which the end is fixed -/
theorem valid_cut {ops : Array Oper} {k : Nat} : ∀ (r : Nat) (opsR : Array Oper) (l : List Nat), opsR.size = k + r → (∀ i, i < k + r → opsR[i]? = ops[i]?) → k + r ≤ ops.size → Valid opsR l →
    (∀ j, k ≤ j → j < k + r → ∀ i, i < j → ((masks ops ops.size).getD j 0).testBit i = true) → ∃ p, l = p ++ List.range' k r ∧ Valid (ops.extract 0 k) p
  | 0, opsR, l, hs, he, hle, hv, _ => by
    refine ⟨l, by simp, ?_⟩
    have hsz : (ops.extract 0 k).size = k := by simp; omega
    refine ⟨hv.nodup, fun i => by rw [hv.all, hs, hsz]; rfl, ?_⟩
    intro p i s hl o ho
    have hik : i < k := by
      have := (Array.getElem?_eq_some_iff.1 ho).1
      omega
    refine hv.pre p i s hl o ?_
    rw [he i (by omega), ← ho, Array.getElem?_extract]
    simp; omega
  | r + 1, opsR, l, hs, he, hle, hv, hb => by
    have hin : k + r ∈ l := (hv.all _).2 (by omega)
    obtain ⟨p, q, hl⟩ := List.append_of_mem hin
    have hbi : ∀ i, i < k + r → i ∈ p := by
      intro i hi
      refine before_in hv (n := opsR.size) (k + r) (by omega) p q hl i ?_
      rw [hs, masks_take (ops := ops) (k := k + (r + 1)) he _ (Nat.le_refl _)]
      have h1 := hb (k + r) (by omega) (by omega) i hi
      rw [masks_getD ops (k + r) _ (by omega)] at h1 ⊢
      exact h1
    have hnd := hv.nodup
    rw [hl] at hnd
    have hq : q = [] := by
      cases q with
      | nil => rfl
      | cons x q =>
        exfalso
        have hx : x < k + (r + 1) := by rw [← hs]; exact (hv.all x).1 (by rw [hl]; simp)
        have h2 := List.nodup_append.1 hnd
        by_cases hxk : x = k + r
        · have := (List.nodup_cons.1 h2.2.1).1
          exact this (by simp [hxk])
        · exact h2.2.2 x (hbi x (by omega)) x (by simp) rfl
    subst hq
    have hsz : (ops.extract 0 (k + r)).size = k + r := by simp; omega
    have hget : ∀ i, i < k + r → (ops.extract 0 (k + r))[i]? = ops[i]? := fun i hi => by rw [Array.getElem?_extract]; simp; omega
    have hvp : Valid (ops.extract 0 (k + r)) p := by
      refine ⟨(List.nodup_append.1 hnd).1, fun i => ?_, ?_⟩
      · rw [hsz]
        constructor
        · intro hi
          have h1 : i < k + (r + 1) := by rw [← hs]; exact (hv.all i).1 (by rw [hl]; simp [hi])
          have h2 : i ≠ k + r := fun e => (List.nodup_append.1 hnd).2.2 i hi (k + r) (by simp) e
          omega
        · exact hbi i
      · intro p' i s' hp o ho
        have hik : i < k + r := by
          have := (Array.getElem?_eq_some_iff.1 ho).1
          omega
        refine hv.pre p' i (s' ++ [k + r]) (by rw [hl, hp]; simp) o ?_
        rw [he i (by omega), ← hget i hik]; exact ho
    obtain ⟨p2, h1, h2⟩ := valid_cut r (ops.extract 0 (k + r)) p hsz hget (by omega) hvp (fun j h1 h2 => hb j h1 (by omega))
    refine ⟨p2, ?_, h2⟩
    rw [hl, h1, List.append_assoc]
    congr 1
    rw [List.range'_concat]; simp

theorem cutAt_le (ms : List Nat) : ∀ n, cutAt ms n ≤ n
  | 0 => Nat.le_refl _
  | n + 1 => by
    rw [cutAt]
    split
    · exact Nat.le_succ_of_le (cutAt_le ms n)
    · exact Nat.le_refl _
theorem cutAt_ok (ms : List Nat) : ∀ n j, cutAt ms n ≤ j → j < n → ∀ i, i < j → (ms.getD j 0).testBit i = true
  | 0, j, _, h => by omega
  | n + 1, j, h1, h2 => by
    rw [cutAt] at h1
    split at h1
    · rename_i h
      by_cases e : j = n
      · subst e
        intro i hi
        rw [List.all_eq_true] at h
        exact h i (by simpa using hi)
      · exact cutAt_ok ms n j h1 (by omega)
    · omega

theorem draw0_sound {ro : Option Nat} {P : Program} {B : Bs} {N : Nat} {ops : Array Oper} {mc : MC} (hc : cDraw0 P N ops = some mc) {Q : Exit → St → Prop} {s : St} (h : mwp P mc Q s) {order : List Nat} (hv : Valid ops order) {ι : Nat → Option Ref} {a : Act} {w : World} (hr : Rel B N s ι a w) :
    wpOpsIn (fR ro) 0 P ops (Post B N s ι w Q) order a { w with drawn := w.drawn + 1 } := by
  have h' : mwp P mc (seqK Q fun Q s => mops P [] s (Q .normal)) s := by
    have hc' := hc
    unfold cDraw0 at hc'
    repeat' split at hc'
    all_goals first
      | (cases hc'; done)
      | (simp only [Option.some.injEq] at hc'; subst hc'; exact h)
  simpa using draw_order (ro := ro) (suf := []) (sl := []) (fun _ _ h => h) hc rfl h' hv hr

theorem edges_hold {P : Program} {N : Nat} {ops : Array Oper} {mc : MC} (hc : cDraw0 P N ops = some mc) : edgesOk ops = true := by
  unfold cDraw0 at hc
  split at hc
  · cases hc
  · split at hc
    · rename_i h; exact h.1
    · cases hc

/-- a region that draws, whatever it draws -/
theorem draw_sound {ro : Option Nat} {P : Program} {B : Bs} {N : Nat} {id : Nat} {ops : Array Oper} {mc : MC} (hmx : P.follows .mixedOrders = true) (hc : cDraw P N ops = some mc) {Q : Exit → St → Prop} {s : St} (h : mwp P mc Q s) : AWp ro P B N (.region id ops true) Q s := by
  intro ι a w hr
  refine wpIn_region_draw fun t => ?_
  have hsched : Region.schedule (P.follows .mixedOrders) ops t = Region.linearise .any ops t := by simp [Region.schedule, hmx]
  rw [hsched]
  unfold cDraw at hc
  split at hc
  · rename_i c h0
    simp only [Option.some.injEq] at hc; subst hc
    exact draw0_sound h0 h (linearise_valid (edges_hold h0) t) hr
  · split at hc
    · rename_i hok
      split at hc
      · rename_i c l h0 hl
        simp only [Option.some.injEq] at hc; subst hc
        have hle := cutAt_le (masks ops ops.size) ops.size
        have hv := linearise_valid hok t
        obtain ⟨p, hp, hvp⟩ := valid_cut (ops := ops) (k := cutAt (masks ops ops.size) ops.size) (ops.size - cutAt (masks ops ops.size) ops.size) ops _ (by omega) (fun _ _ => rfl) (by omega) hv (fun j h1 h2 => cutAt_ok _ _ j h1 (by omega))
        rw [hp]
        refine draw_order (ro := ro) (fun i o ho => ?_) h0 hl h hvp hr
        rw [← ho, Array.getElem?_extract]
        have := (Array.getElem?_eq_some_iff.1 ho).1
        simp at this
        simp; omega
      · cases hc
    · cases hc

theorem Post.trans {B : Bs} {N : Nat} {s s' : St} {ι ι' : Nat → Option Ref} {w w' : World} {Q : Exit → St → Prop} {e : Exit} {a : Act} {w2 : World} (hE : HExt ι s.H w ι' s'.H w') (h : Post B N s' ι' w' Q e a w2) : Post B N s ι w Q e a w2 := by
  obtain ⟨t, κ, hQ, hR, hE2⟩ := h
  exact ⟨t, κ, hQ, hR, hE.trans hE2⟩

/-- a loop's round, entered -/
def InLoop (ro : Option Nat) (P : Program) (c : Code) (Q : Exit → Act → World → Prop) (a : Act) (w : World) : Prop :=
  ∀ (b : Frame) (k : List Item) (cs : List Frame), b.roundOf = ro → ∃ e a' w', Q e a' w' ∧ ArrivesIn (Machine.fenced P (fR ro)) P (lone (b.atR a (.code c :: .inLoop c :: k)) cs w) b k cs e a' w'

theorem fR_room (ro : Option Nat) (n : Nat) : (fR ro).room n := fun _ h => by simp [fR, Fence.wide] at h
theorem fR_fn (ro : Option Nat) (f : FuncId) : (fR ro).fn f := trivial

theorem wp_of_inLoop {ro : Option Nat} {P : Program} {c : Code} {Q : Exit → Act → World → Prop} {a : Act} {w : World} (h : InLoop ro P c Q a w) : (Code.loop c).wpIn (fR ro) 0 P Q a w := by
  intro b k cs hro hb hr
  obtain ⟨e, a', w', hq, harr⟩ := h b k cs hro
  exact ⟨e, a', w', hq, .of_steps (.one (fenced_calm hb hr rfl) stepR_loop) harr⟩

theorem inLoop_of {ro : Option Nat} {P : Program} {c : Code} {Q : Exit → Act → World → Prop} {a : Act} {w : World} (h : c.wpIn (fR ro) 0 P (Exit.then (InLoop ro P c Q) Q) a w) : InLoop ro P c Q a w := by
  intro b k cs hro
  obtain ⟨e, a₁, w₁, hq, harr⟩ := h b (.inLoop c :: k) cs hro (fR_fn _ _) (fR_room _ _)
  cases e with
  | normal =>
    obtain ⟨e₂, a₂, w₂, hq₂, harr₂⟩ := hq b k cs hro
    exact ⟨e₂, a₂, w₂, hq₂, .of_steps (StepsIn.trans harr (.one (fenced_calm (n := 0) (fR_fn _ _) (fR_room _ _) rfl) stepR_inLoop)) harr₂⟩
  | exit id => exact ⟨_, a₁, w₁, hq, .pass (x := .inLoop c) rfl (fun _ _ => .inl (by simp)) harr⟩
  | goto l => exact ⟨_, a₁, w₁, hq, .pass (x := .inLoop c) rfl (fun _ _ => .inl (by simp)) harr⟩
  | ret => exact ⟨_, a₁, w₁, hq, .pass (x := .inLoop c) rfl (fun _ _ => .inl (by simp)) harr⟩
  | panic ch => exact ⟨_, a₁, w₁, hq, .pass (x := .inLoop c) rfl (fun _ _ => .inl (by simp)) harr⟩
  | outgrown => exact ⟨_, a₁, w₁, hq, .pass (x := .inLoop c) rfl (fun _ _ => .inl (by simp)) harr⟩

theorem HRel.seto {ι : Nat → Option Ref} {H : Heap} {w : World} (h : HRel ι H w) {id : Nat} {o : OB} {q : Ref} (ho : H.ob id = some o) (hq : ι id = some q) (x : Loop) (o' : Option OB)
    (ho' : ∀ p, o' = some p → p.lp = x ∧ TRel ι p.τ x.tmps ∧ p.mo = none) : HRel ι (H.seto id o') (w.putObj q.row (.loop x)) := by
  have hsame : ∀ k, k ≠ q.row → (w.putObj q.row (.loop x)).heap[k]? = w.heap[k]? := fun k hk => World.putObj_heap_other hk
  obtain ⟨q', g1, g2⟩ := h.obs id o ho
  rw [hq] at g1; injection g1 with g1; subst g1
  obtain ⟨x0, g3, g4⟩ := g2.row
  have old : ∀ i p, (H.seto id o').ob i = some p → ∃ p0, H.ob i = some p0 := by
    intro i p hp
    simp only [Heap.seto] at hp
    split at hp
    · rename_i e; exact ⟨o, by rw [e]; exact ho⟩
    · exact ⟨p, hp⟩
  refine ⟨h.fresh, fun i b hb => ?_, h.apart, fun i p hp => ?_, fun i p r i' p' r' h1 h2 h3 h4 => ?_, h.gl⟩
  · obtain ⟨r, h1, h2⟩ := h.blk i b hb
    refine ⟨r, h1, ?_⟩
    by_cases hr : r.row = q.row
    · unfold BlkRel at h2 ⊢
      split at h2
      · obtain ⟨c, e, k3, _⟩ := h2
        rw [hr, g3] at k3; cases k3; cases g4
      · intro j a ha
        obtain ⟨v, hv, _⟩ := h2 j a ha
        exfalso
        rw [hr] at hv
        cases x0 <;> simp [isOb] at g4 <;> simp [World.cell?, g3] at hv
    · exact h2.keep (hsame _ hr)
  · simp only [Heap.seto] at hp
    split at hp
    · rename_i e
      subst e
      obtain ⟨k1, k2, k3⟩ := ho' p hp
      refine ⟨q, hq, ?_⟩
      unfold OBRel
      rw [k3]
      exact ⟨by rw [k1]; exact World.putObj_heap_same (Array.getElem?_eq_some_iff.1 g3).1, by rw [k1]; exact k2⟩
    · rename_i e
      obtain ⟨r, k1, k2⟩ := h.obs i p hp
      exact ⟨r, k1, k2.keep (hsame _ (fun hr => e (h.oapart i p r id o q hp ho k1 hq hr)))⟩
  · obtain ⟨p0, hp0⟩ := old i p h1
    obtain ⟨p0', hp0'⟩ := old i' p' h2
    exact h.oapart i p0 r i' p0' r' hp0 hp0' h3 h4

theorem HExt.seto {ι ι' : Nat → Option Ref} {H H' : Heap} {w w' : World} (h : HExt ι H w ι' H' w') {id : Nat} {o : OB} {q : Ref} (ho : H'.ob id = some o) (hq : ι' id = some q) (x : Obj) (o' : Option OB)
    : HExt ι H w ι' (H'.seto id o') (w'.putObj q.row x) := by
  refine h.trans ⟨Ref.le_refl _, Nat.le_refl _, by simp, rfl, rfl, rfl, fun k hk h1 h2 => World.putObj_heap_other (fun e => h2 id o q ho hq e.symm), fun i b r h1 h2 h3 => .inr ⟨i, b, r, h1, h2, h3, rfl⟩, fun i p r h1 h2 => ?_⟩
  simp only [Heap.seto] at h1
  split at h1
  · rename_i e; subst e
    rw [hq] at h2; injection h2 with h2
    exact .inr ⟨i, o, q, ho, hq, by rw [h2]⟩
  · exact .inr ⟨i, p, r, h1, h2, rfl⟩

theorem HRel.newo {ι : Nat → Option Ref} {H : Heap} {w : World} (h : HRel ι H w) (D : Obj) (x : OB) (ht : TRel ι x.τ x.lp.tmps) (hmo : x.mo = none) :
    HRel (Ref.with ι H.size ⟨w.heap.size + 1, 0, 0⟩) (H.newo x) ((w.alloc D).alloc (.loop x.lp)) ∧ HExt ι H w (Ref.with ι H.size ⟨w.heap.size + 1, 0, 0⟩) (H.newo x) ((w.alloc D).alloc (.loop x.lp)) := by
  have hn := h.fresh H.size (Nat.le_refl _)
  have hle := Ref.le_with (ι := ι) ⟨w.heap.size + 1, 0, 0⟩ hn
  have hold : ∀ k, k < w.heap.size → ((w.alloc D).alloc (.loop x.lp)).heap[k]? = w.heap[k]? := fun k hk => by
    show ((w.heap.push D).push (.loop x.lp))[k]? = _
    rw [Array.getElem?_push, if_neg (by simp; omega), Array.getElem?_push, if_neg (by omega)]
  have hnew : ((w.alloc D).alloc (.loop x.lp)).heap[w.heap.size + 1]? = some (.loop x.lp) := by
    have := World.alloc_heap_new (w.alloc D) (.loop x.lp); rwa [World.size_alloc] at this
  have old : ∀ i p r, H.ob i = some p → Ref.with ι H.size ⟨w.heap.size + 1, 0, 0⟩ i = some r → ι i = some r := by
    intro i p r hp hr
    obtain ⟨r1, h1, _⟩ := h.obs i p hp
    rw [hle _ _ h1] at hr; injection hr with e; rw [← e]; exact h1
  refine ⟨⟨fun i hi => ?_, fun i b hb => ?_, fun i b r i' b' r' h1 h2 h3 h4 h5 h6 => ?_, fun i p hp => ?_, fun i p r i' p' r' h1 h2 h3 h4 h5 => ?_, h.gl.le hle⟩, ⟨hle, by simp [Heap.newo], by simp; omega, rfl, rfl, rfl, fun k hk _ _ => hold k hk, fun i b r h1 h2 h3 => ?_, fun i p r h1 h2 => ?_⟩⟩
  · simp only [Heap.newo] at hi
    unfold Ref.with
    rw [if_neg (by omega)]; exact h.fresh i (by omega)
  · obtain ⟨r, h1, h2⟩ := h.blk i b hb
    refine ⟨r, hle _ _ h1, ?_⟩
    rcases h2.lt with hlt | hnil
    · exact (h2.mono hle).keep (hold _ hlt)
    · unfold BlkRel at h2 ⊢
      cases hrw : b.rw with
      | true =>
        rw [hrw] at h2
        obtain ⟨c', e', k1, k2⟩ := h2
        rw [hold _ (Array.getElem?_eq_some_iff.1 k1).1]
        exact ⟨c', e', k1, k2.1, k2.2.1, VRelL.mono hle _ _ k2.2.2⟩
      | false => intro j a ha; rw [hnil] at ha; simp at ha
  · have g : ∀ j bj rj, H.get j = some bj → Ref.with ι H.size ⟨w.heap.size + 1, 0, 0⟩ j = some rj → ι j = some rj := by
      intro j bj rj hj hr
      obtain ⟨r1, k1, _⟩ := h.blk j bj hj
      rw [hle _ _ k1] at hr; injection hr with e; rw [← e]; exact k1
    exact h.apart i b r i' b' r' h1 h2 h3 h4 (g i b r h1 h5) (g i' b' r' h2 h6)
  · simp only [Heap.newo] at hp
    split at hp
    · rename_i e
      simp only [Option.some.injEq] at hp; subst hp
      refine ⟨⟨w.heap.size + 1, 0, 0⟩, by simp [Ref.with, e], ?_⟩
      unfold OBRel
      rw [hmo]
      exact ⟨hnew, fun j => VRel.mono hle _ _ (ht j)⟩
    · obtain ⟨r, h1, h2⟩ := h.obs i p hp
      exact ⟨r, hle _ _ h1, (h2.mono hle).keep (hold _ (h.ob_lt hp h1))⟩
  · simp only [Heap.newo] at h1 h2
    have key : ∀ j pj rj, (if j = H.size then some x else H.ob j) = some pj → Ref.with ι H.size ⟨w.heap.size + 1, 0, 0⟩ j = some rj → (j = H.size ∧ rj.row = w.heap.size + 1) ∨ (∃ p, H.ob j = some p ∧ ι j = some rj ∧ rj.row < w.heap.size) := by
      intro j pj rj hj hr
      split at hj
      · rename_i e; simp [Ref.with, e] at hr; exact .inl ⟨e, by rw [← hr]⟩
      · exact .inr ⟨pj, hj, old j pj rj hj hr, h.ob_lt hj (old j pj rj hj hr)⟩
    rcases key i p r h1 h3 with ⟨k1, k2⟩ | ⟨q1, k1, k2, k3⟩ <;> rcases key i' p' r' h2 h4 with ⟨m1, m2⟩ | ⟨q2, m1, m2, m3⟩
    · rw [k1, m1]
    · omega
    · omega
    · exact h.oapart i q1 r i' q2 r' k1 m1 k2 m2 h5
  · obtain ⟨r1, k1, _⟩ := h.blk i b h1
    rw [hle _ _ k1] at h3; injection h3 with e
    exact .inr ⟨i, b, r1, h1, h2, k1, by rw [e]⟩
  · simp only [Heap.newo] at h1
    split at h1
    · rename_i e; simp [Ref.with, e] at h2; exact .inl (by rw [← h2]; simp)
    · exact .inr ⟨i, p, r, h1, old i p r h1 h2, rfl⟩

theorem setp_rel {ι : Nat → Option Ref} : ∀ (ps : List Nat) (xs : List AV) (us : List Value) (τ : Nat → AV) (tmps : Array Value), TRel ι τ tmps → VRelL ι xs us → (∀ p ∈ ps, p < tmps.size) → xs.length = ps.length →
    TRel ι (setp τ ps xs) ((ps.zip us).foldl (fun t (p : Nat × Value) => t.setIfInBounds p.1 p.2) tmps) ∧ ((ps.zip us).foldl (fun t (p : Nat × Value) => t.setIfInBounds p.1 p.2) tmps).size = tmps.size
  | [], xs, us, τ, tmps, ht, hx, hp, hl => by
    have : xs = [] := List.eq_nil_of_length_eq_zero (by simpa using hl)
    subst this
    exact ⟨by simpa [setp] using ht, by simp⟩
  | p :: ps, [], us, τ, tmps, ht, hx, hp, hl => by simp at hl
  | p :: ps, x :: xs, us, τ, tmps, ht, hx, hp, hl => by
    simp only [VRelL] at hx
    obtain ⟨u, r, rfl, hu, hr⟩ := hx
    simp only [List.zip_cons_cons, List.foldl_cons, setp]
    have h2 : TRel ι (upd τ p x) (tmps.setIfInBounds p u) := by
      intro i
      simp only [upd]
      by_cases hi : i = p
      · subst hi
        rw [if_pos rfl, Array.getD_eq_getD_getElem?, Array.getElem?_setIfInBounds_self_of_lt (hp i (by simp))]
        exact hu
      · rw [if_neg hi]
        have h1 := ht i
        rw [Array.getD_eq_getD_getElem?] at h1 ⊢
        rw [Array.getElem?_setIfInBounds_ne (Ne.symm hi)]
        exact h1
    have := setp_rel ps xs r (upd τ p x) (tmps.setIfInBounds p u) h2 hr (fun q hq => by simpa using hp q (by simp [hq])) (by simpa using hl)
    exact ⟨this.1, by simpa using this.2⟩

theorem Marks.row_lt {ι : Nat → Option Ref} {b : Nat} {w : World} : ∀ {l : List Deferred} {dv : List AV}, Marks ι b w dv l → ∀ e ∈ l, ∀ r, e.target = .collected r → r < w.heap.size
  | [], _, _, e, he, _, _ => by simp at he
  | d :: l, dv, .inl ⟨⟨q, h1, h2, h3, h4⟩, h5⟩, e, he, r, hr => by
    rcases List.mem_cons.1 he with rfl | he
    · rw [h1] at hr; injection hr with hr; subst hr
      exact (Array.getElem?_eq_some_iff.1 h3).1
    · exact Marks.row_lt h5 e he r hr
  | d :: l, dv, .inr ⟨x, dv', h1, ⟨f, avs, us, vs, e1, e2, e3⟩, h3⟩, e, he, r, hr => by
    rcases List.mem_cons.1 he with rfl | he
    · rw [e2] at hr; cases hr
    · exact Marks.row_lt h3 e he r hr

theorem Marks.turn {ι : Nat → Option Ref} {b : Nat} {w : World} {r : Nat} {x : Loop} (o : Obj) (hl : w.heap[r]? = some (.loop x)) : ∀ {l : List Deferred} {dv : List AV}, Marks ι b w dv l → Marks ι b (w.putObj r o) dv l
  | [], _, h => by simp only [Marks, World.putObj_size] at h ⊢; exact h
  | d :: l, dv, .inl ⟨⟨q, h1, h2, h3, h4⟩, h5⟩ => by
    refine .inl ⟨⟨q, h1, h2, ?_, h4⟩, Marks.turn o hl h5⟩
    rw [World.putObj_heap_other (fun e => by rw [e, hl] at h3; cases h3)]; exact h3
  | d :: l, dv, .inr ⟨y, dv', h1, h2, h3⟩ => .inr ⟨y, dv', h1, h2, Marks.turn o hl h3⟩

/-- one round, by the assignment's and the body's code -/
theorem round_yield {P : Program} {N : Nat} {ps : Array Tmp} {x y : Code} {A D : MC} (hps : ∀ p ∈ ps.toList, p < N)
    (hA : ∀ (ro : Option Nat) (B : Bs) (Q : Exit → St → Prop) (s : St), mwp P A Q s → AWp ro P B N x Q s) (hB : ∀ (ro : Option Nat) (B : Bs) (Q : Exit → St → Prop) (s : St), mwp P D Q s → AWp ro P B N y Q s)
    {o : OB} {fn : FuncId} {df : Nat} {tmps : Array Value} {τ : Nat → AV} {k : Nat} (hsz : tmps.size = N) (hoL : o.lp = { state := .ready, pending := none, fn, tmps := tmps, params := ps, assign := x, body := y, defers := df }) (hoτ : o.τ = τ) (hlst : lst o .ready none = o)
    (xs : List AV) (H : Heap) (R : Bool → Heap → Prop) (hlen : xs.length = ps.toList.length) (hob : H.ob k = some (lst o .ready none)) (hm : mwp P A (asgK k o (mwp P D (roundK k o R))) ⟨setp τ ps.toList xs, H⟩) : AYield P k xs H R := by
  intro ι2 w2 us q hH2 hus hq
  rw [hlst] at hob
  have homo : o.mo = none := by rw [← hlst]; rfl
  obtain ⟨q', g1, g0⟩ := hH2.obs _ _ hob
  obtain ⟨g2, g3⟩ := g0.loop homo
  rw [hq] at g1; injection g1 with g1; subst g1
  have hul : us.size = ps.size := by
    have := hus.length
    simp only [Array.length_toList] at this hlen
    omega
  have hy := run_yield (P := P) (args := us) g2 (by rw [hoL]; exact hul)
  rw [hoL] at hy
  simp only at hy
  rw [hoL, hoτ] at g3
  obtain ⟨k1, k2⟩ := setp_rel ps.toList xs us.toList τ tmps g3 hus (fun p hp => by rw [hsz]; exact hps p hp) hlen
  have hz : (ps.zip us).foldl (fun t (p : Nat × Value) => t.setIfInBounds p.1 p.2) tmps = (ps.toList.zip us.toList).foldl (fun t (p : Nat × Value) => t.setIfInBounds p.1 p.2) tmps := by
    rw [← Array.foldl_toList]; simp
  refine ⟨fn, _, x, y, hy, roundIn_of_wpIn (F := Fence.wide) trivial ?_⟩
  have hrel : Rel ⟨0, none⟩ N ⟨setp τ ps.toList xs, H⟩ ι2 { tmps := (ps.zip us).foldl (fun t (p : Nat × Value) => t.setIfInBounds p.1 p.2) tmps, defers := [] } w2 :=
    ⟨⟨rfl, Nat.zero_le _⟩, fun n h => (by cases h), by rw [hz]; exact k2.trans hsz, by rw [hz]; exact k1, hH2⟩
  refine wpIn_mono (hA (some q.row) ⟨0, none⟩ _ _ hm ι2 _ w2 hrel) ?_
  rintro e a1 w1 ⟨s1, ι3, hq1, hr1, hE3⟩
  cases e with
  | normal =>
    obtain ⟨hob1, hm1⟩ := hq1
    rw [hlst] at hob1
    obtain ⟨q', m1, m0⟩ := hr1.heap.obs _ _ hob1
    obtain ⟨m2, m3⟩ := m0.loop homo
    rw [hE3.le _ _ hq] at m1; injection m1 with m1; subst m1
    have hq3 := hE3.le _ _ hq
    refine ⟨_, run_beginRound m2 (by rw [hoL]), ?_⟩
    have hH4 := hr1.heap.seto hob1 hq3 { o.lp with state := .busy } (some (lst o .busy none)) (fun p hp => by
      simp only [Option.some.injEq] at hp; subst hp
      exact ⟨by simp [lst, hoL], m3, rfl⟩)
    have hE4 := hE3.seto hob1 hq3 (.loop { o.lp with state := .busy }) (some (lst o .busy none))
    have hr4 : Rel ⟨0, none⟩ N ⟨s1.τ, s1.H.seto k (some (lst o .busy none))⟩ ι3 a1 (w1.putObj q.row (.loop { o.lp with state := .busy })) := ⟨hr1.defers.turn _ m2, hr1.big, hr1.size, hr1.tmps, hH4⟩
    refine wpIn_mono (hB (some q.row) ⟨0, none⟩ _ _ hm1 ι3 _ _ hr4) ?_
    have fin : ∀ (jump : Option Code) (s2 : St) (ι4 : Nat → Option Ref) (a2 : Act) (w5 : World), s2.H.ob k = some (lst o .busy none) → Rel ⟨0, none⟩ N s2 ι4 a2 w5 → HExt ι3 (s1.H.seto k (some (lst o .busy none))) (w1.putObj q.row (.loop { o.lp with state := .busy })) ι4 s2.H w5 →
        ∃ v w', (Instr.endRound q.row jump).run P w5 = .ok v w' ∧ v = .bool jump.isNone ∧ HRel ι4 (s2.H.seto k (some (lst o (if jump.isNone then .ready else .done) jump))) w' ∧ HExt ι2 H w2 ι4 (s2.H.seto k (some (lst o (if jump.isNone then .ready else .done) jump))) w' := by
      intro jump s2 ι4 a2 w5 hob2 hr2 hE5
      obtain ⟨q', n1, n0⟩ := hr2.heap.obs _ _ hob2
      obtain ⟨n2, n3⟩ := n0.loop rfl
      have hq5 := hE5.le _ _ hq3
      rw [hq5] at n1; injection n1 with n1; subst n1
      exact ⟨_, _, run_endRound jump n2, rfl, hr2.heap.seto hob2 hq5 _ _ (fun p hp => by
        simp only [Option.some.injEq] at hp; subst hp
        exact ⟨rfl, n3, rfl⟩), (hE4.trans hE5).seto hob2 hq5 _ _⟩
    rintro e a2 w5 ⟨s2, ι4, hq4, hr2, hE5⟩
    cases e with
    | normal =>
      obtain ⟨hob2, hR2⟩ := hq4
      obtain ⟨v, w', c1, rfl, c3, c4⟩ := fin none s2 ι4 a2 w5 hob2 hr2 hE5
      exact ⟨_, w', c1, true, _, ι4, rfl, hR2, c3, c4⟩
    | ret =>
      obtain ⟨hob2, hR2⟩ := hq4
      obtain ⟨v, w', c1, rfl, c3, c4⟩ := fin (some .ret) s2 ι4 a2 w5 hob2 hr2 hE5
      exact ⟨_, w', c1, false, _, ι4, rfl, hR2, c3, c4⟩
    | exit id =>
      obtain ⟨hob2, hR2⟩ := hq4
      obtain ⟨v, w', c1, rfl, c3, c4⟩ := fin (some (.exit id)) s2 ι4 a2 w5 hob2 hr2 hE5
      exact ⟨_, w', c1, false, _, ι4, rfl, hR2, c3, c4⟩
    | _ => exact hq4.elim
  | _ => exact hq1.elim
/-- a range over a function -/
theorem rfunc_sound {P : Program} {B : Bs} {N : Nat} {g : Operand} {ps : Array Tmp} {x y : Code} {mg : MX} {A D : MC} (hg : cX g = some mg) (hps : ∀ p ∈ ps.toList, p < N)
    (hA : ∀ (ro : Option Nat) (B : Bs) (Q : Exit → St → Prop) (s : St), mwp P A Q s → AWp ro P B N x Q s) (hB : ∀ (ro : Option Nat) (B : Bs) (Q : Exit → St → Prop) (s : St), mwp P D Q s → AWp ro P B N y Q s)
    {Q : Exit → St → Prop} {s : St} (h : mwp P (.rfunc mg ps.toList A D) Q s) : AWp none P B N (.rangeFunc g ps x y) Q s := by
  intro ι a w hr
  simp only [mwp, mrfunc] at h
  split at h
  rotate_left
  · exact h.elim
  rename_i f caps hf
  obtain ⟨hcb, h⟩ := h
  have e2 := ev_rel hr.tmps hg
  rw [hf] at e2
  simp only [VRel] at e2
  obtain ⟨vs, hv, hvs⟩ := e2
  refine wpIn_rangeFunc ?_
  intro fn hfn
  obtain ⟨o, ho⟩ : ∃ o : OB, o = ⟨{ state := .ready, pending := none, fn, tmps := a.tmps, params := ps, assign := x, body := y, defers := w.heap.size }, s.τ, none⟩ := ⟨_, rfl⟩
  have hlst : lst o .ready none = o := by rw [ho]; rfl
  obtain ⟨hH1, hE1⟩ := hr.heap.newo (.deferred (some [])) o (by rw [ho]; exact hr.tmps) (by rw [ho])
  have hoL : o.lp = { state := .ready, pending := none, fn, tmps := a.tmps, params := ps, assign := x, body := y, defers := w.heap.size } := by rw [ho]
  have hoτ : o.τ = s.τ := by rw [ho]
  have hnone : s.H.ob s.H.size = none := by
    cases hob : s.H.ob s.H.size with
    | none => rfl
    | some o' =>
      obtain ⟨r', h1, _⟩ := hr.heap.obs _ _ hob
      rw [hr.heap.fresh _ (Nat.le_refl _)] at h1; cases h1
  obtain ⟨R, hR, hk⟩ := h o hoτ hnone (round_yield hps hA hB hr.size hoL hoτ hlst)
  rw [hlst] at hR
  have hqL : (Ref.with ι s.H.size ⟨w.heap.size + 1, 0, 0⟩) s.H.size = some ⟨w.heap.size + 1, 0, 0⟩ := by simp [Ref.with]
  obtain ⟨W1, hW1⟩ : ∃ W1, (w.alloc (.deferred (some []))).alloc (.loop o.lp) = W1 := ⟨_, rfl⟩
  have hD : W1.heap[w.heap.size]? = some (.deferred (some [])) := by
    rw [← hW1]
    show ((w.heap.push (.deferred (some []))).push (.loop o.lp))[w.heap.size]? = _
    rw [Array.getElem?_push, if_neg (by simp), Array.getElem?_push, if_pos rfl]
  have hent : (Instr.enterLoop fn a.tmps ps x y none).run P w = .ok (w.heap.size + 1, [{ target := .collected w.heap.size, args := #[] }]) W1 := by
    rw [← hW1, hoL]; exact run_enterLoop_outer _ _ _ _ _
  rw [hW1] at hH1 hE1
  have hcall := hR _ _ (#[.func (.yield (w.heap.size + 1)) #[] #[]] ++ vs) hH1 (by
    simp only [Array.toList_append, List.singleton_append, VRelL]
    exact ⟨_, _, rfl, by simp only [VRel]; exact ⟨_, hqL, rfl⟩, VRelL.mono hE1.le _ _ hvs⟩)
  refine ⟨w.heap.size + 1, [{ target := .collected w.heap.size, args := #[] }], W1, { target := .fn (.func f) vs, args := #[.func (.yield (w.heap.size + 1)) #[] #[]] }, W1, f,
    #[.func (.yield (w.heap.size + 1)) #[] #[]] ++ vs, W1, hent, ?_, fun _ _ => trivial, ?_, fun h => (by cases h), ?_⟩
  · simp only [resolve, hv]
    simp [go_sem]
  · simp [invoke, go_sem, run_callFunc hcb]
  refine (callsR hcall).mono ?_
  rintro e w3 ⟨r, u, H', ι3, rfl, hRr, _, hH3, hE3⟩
  obtain ⟨st, pe, hob, hst, hq⟩ := hk r H' hRr
  obtain ⟨q', n1, n0⟩ := hH3.obs _ _ hob
  obtain ⟨n2, n3⟩ := n0.loop rfl
  have hq3 := hE3.le _ _ hqL
  rw [hq3] at n1; injection n1 with n1; subst n1
  have hE := (hE1.trans hE3).seto hob hq3 (.loop { (lst o st pe).lp with state := .exhausted }) none
  have hH := hH3.seto hob hq3 { (lst o st pe).lp with state := .exhausted } none (fun p hp => by cases hp)
  have hB2 := hr.defers.le
  have hM1 : Marks (Ref.with ι s.H.size ⟨w.heap.size + 1, 0, 0⟩) B.b W1 (dvOf B s) ([{ target := .collected w.heap.size, args := #[] }] ++ a.defers) := by
    refine .inl ⟨⟨w.heap.size, rfl, hB2, hD, fun e he h1 => ?_⟩, Marks.ext hr.heap hE1 hr.defers⟩
    · have := hr.defers.row_lt e he _ h1
      omega
  have hM := (Marks.ext hH1 hE3 hM1).turn (.loop { (lst o st pe).lp with state := .exhausted }) n2
  have hr4 : Rel B N ⟨s.τ, H'.seto s.H.size none⟩ ι3 { a with defers := [{ target := .collected w.heap.size, args := #[] }] ++ a.defers } (w3.putObj (w.heap.size + 1) (.loop { (lst o st pe).lp with state := .exhausted })) :=
    ⟨hM, hr.big, hr.size, hr.tmps.mono hE.le, hH⟩
  refine ⟨pe, _, run_endLoop n2 hst, ?_⟩
  cases pe with
  | none => exact ⟨_, ι3, hq, hr4, hE⟩
  | some c =>
    cases c with
    | ret => exact wpIn_ret ⟨_, ι3, hq, hr4, hE⟩
    | exit id => exact wpIn_exit ⟨_, ι3, hq, hr4, hE⟩
    | _ => exact hq.elim

def noGo (Q : Exit → Act → World → Prop) : Exit → Act → World → Prop
  | .goto _, _, _ => False
  | e, a, w => Q e a w

section
variable {P : Program} {b : Frame} {a : Act} {k : List Item} {cs : List Frame} {w : World} {Q : Exit → Act → World → Prop} {F : Fence} {n : Nat}
theorem stepR_scope {c : Code} : step P (lone (b.atR a (.code (.scope c) :: k)) cs w) = .next (lone (b.atR a (.code c :: .inScope c :: k)) cs w) :=
  step_lone_go (by simp [stepG, stepG.exec, Frame.atR])
theorem stepR_inScope {c : Code} : step P (lone (b.atR a (.inScope c :: k)) cs w) = .next (lone (b.atR a k) cs w) :=
  step_lone_go (by simp [stepG, stepG.exec, Frame.atR])
theorem wpIn_scope {c : Code} (h : c.wpIn F n P (noGo Q) a w) : (Code.scope c).wpIn F n P Q a w := by
  intro b k cs hro hb hr
  have h0 : (lone (b.atR a (.code (.scope c) :: k)) cs w).fenced P F := fenced_calm hb hr rfl
  obtain ⟨e, a₁, w₁, hq, harr⟩ := h b (.inScope c :: k) cs hro hb hr
  cases e with
  | normal => exact ⟨.normal, a₁, w₁, hq, .head h0 stepR_scope (StepsIn.trans harr (.one (fenced_calm hb hr rfl) stepR_inScope))⟩
  | exit id =>
    have hx : exitTo id (.inScope c :: k) = exitTo id k := by simp [exitTo]
    exact ⟨.exit id, a₁, w₁, hq, fun k' hk => .head h0 stepR_scope (harr.1 k' (by rw [hx]; exact hk)),
      fun hr' hk => let ⟨k₁, h1, h2⟩ := harr.2 hr' (by rw [hx]; exact hk); ⟨k₁, h1, .head h0 stepR_scope h2⟩⟩
  | goto l => exact hq.elim
  | ret => exact ⟨_, a₁, w₁, hq, .of_steps (.one h0 stepR_scope) harr⟩
  | panic ch => exact ⟨_, a₁, w₁, hq, .of_steps (.one h0 stepR_scope) harr⟩
  | outgrown => exact ⟨_, a₁, w₁, hq, .of_steps (.one h0 stepR_scope) harr⟩
end

/-- a call is deferred -/
theorem dfr_sound {ro : Option Nat} {P : Program} {B : Bs} {N : Nat} {id : Nat} {ops : Array Oper} {mc : MC} (hc : cDfr P N ops = some mc) (hfl : ro = none ∨ mc.flat = true) (hpl : B.d = some N ∨ mc.plain = true) {Q : Exit → St → Prop} {s : St} (h : mwp P mc Q s) : AWp ro P B N (.region id ops false) Q s := by
  intro ι a w hr
  unfold cDfr at hc
  split at hc
  rotate_left
  · cases hc
  rename_i o d c ty pos af ho
  split at hc
  rotate_left
  · cases hc
  rename_i x as l hcal has hl
  split at hc
  rotate_left
  · cases hc
  rename_i fx hfx
  split at hc
  rotate_left
  · cases hc
  rename_i hd
  simp only [Option.some.injEq] at hc; subst hc
  obtain rfl : ro = none := by rcases hfl with h | h
                               · exact h
                               · simp [MC.flat] at h
  have hB : B.d = some N := by rcases hpl with h | h
                               · exact h
                               · simp [MC.plain] at h
  have hd' : ∀ t, d = some t → t < N := by
    intro t ht; rw [ht] at hd; simpa [dstOk] using hd
  have hsz : ops.size = (ops.size - 1) + 1 := by
    have := (Array.getElem?_eq_some_iff.1 ho).1
    omega
  simp only [mwp] at h
  refine wpIn_region ?_
  rw [hsz, List.range_succ]
  refine ops_sound_on (ro := none) (s0 := s) (ι0 := ι) (w0 := w) ?_ _ l s ι a w hl h hr (HExt.refl _ _ _)
  clear h hr
  intro s' ι' a' w' hk hr' hE
  simp only [wpOpsIn, ho]
  rw [if_pos (by simp [Region.wanted])]
  refine ⟨fun _ _ => trivial, ?_⟩
  have e1 := evs_rel hr'.tmps has
  have e2 := ev_rel hr'.tmps hfx
  simp only [dfrK] at hk
  have key : ∀ (f : FuncId) (avs : List AV) (us vs : Array Value), VRelL ι' avs (us ++ vs).toList → (resolve a'.eval c ty).run P w' = .ok { target := .fn (.func f) vs, args := us } w' →
      Q .normal (St.put ⟨upd s'.τ N (.dfl (.agg (.func f [] :: avs) :: tupL (s'.τ N))), s'.H⟩ d (.tuple [])) →
      Oper.uponIn (fR none) 0 P { op := .defer c, guard := none, dst := d, type := ty, pos := pos, after := af } a' (wpOpsIn (fR none) 0 P ops (Post B N s ι w Q) []) (Post B N s ι w Q) (({ op := .defer c, guard := none, dst := d, type := ty, pos := pos, after := af : Oper }.semAt (fR none).round a'.eval).run P w') := by
    intro f avs us vs hv hres hq
    have hrun : ({ op := .defer c, guard := none, dst := d, type := ty, pos := pos, after := af : Oper }.semAt (fR none).round a'.eval).run P w' = .ok (.defer { target := .fn (.func f) vs, args := us }) w' := by
      show ((execOp a'.eval ({ op := .defer c, guard := none, dst := d, type := ty, pos := pos, after := af } : Oper)).run P w') = _
      simp only [execOp, Sem.run_bind, hres, Result.andThen_ok, Sem.run_pure]
    rw [hrun]
    show Post B N s ι w Q .normal _ w'
    refine ⟨_, ι', hq, ?_, by cases d <;> exact hE⟩
    have hr2 : Rel B N ⟨upd s'.τ N (.dfl (.agg (.func f [] :: avs) :: tupL (s'.τ N))), s'.H⟩ ι' { a' with defers := { target := .fn (.func f) vs, args := us } :: a'.defers } w' := by
      refine ⟨?_, hr'.big, hr'.size, ?_, hr'.heap⟩
      · have hM := hr'.defers
        unfold dvOf at hM ⊢
        rw [hB] at hM ⊢
        simp only [upd, if_true, tupL] at hM ⊢
        exact .inr ⟨_, _, rfl, ⟨f, avs, us, vs, rfl, rfl, hv⟩, hM⟩
      · intro i
        simp only [upd]
        split
        · simp [VRel]
        · exact hr'.tmps i
    have := hr2.put (HExt.refl _ _ _) (undef_rel ι') hr'.heap hd'
    exact this
  split at hk
  · rename_i f cs hf
    rw [hf] at e2
    simp only [VRel] at e2
    obtain ⟨vs, hv, hvs⟩ := e2
    refine key f _ (c.args.map a'.eval) vs ?_ ?_ hk
    · simpa using e1.append hvs
    · simp [resolve, hcal, Deferred.ofValue, hv]
  · rename_i f y hf
    rw [hf] at e2
    simp only [VRel] at e2
    obtain ⟨v, hv, hvs⟩ := e2
    refine key f _ (#[v] ++ c.args.map a'.eval) #[] ?_ ?_ hk
    · simp only [Array.append_empty, Array.toList_append, List.singleton_append, VRelL, Array.toList_map]
      exact ⟨_, _, rfl, hvs, e1⟩
    · simp [resolve, hcal, Deferred.ofValue, hv]
  · exact hk.elim

theorem code_sound {P : Program} {N : Nat} (hmx : P.follows .mixedOrders = true) : ∀ (c : Code) (ro : Option Nat) (B : Bs) (mc : MC), cCode P N c = some mc → (ro = none ∨ mc.flat = true) → (B.d = some N ∨ mc.plain = true) → ∀ (Q : Exit → St → Prop) (s : St), mwp P mc Q s → AWp ro P B N c Q s := by
  intro c
  induction c with
  | skip =>
    intro ro B mc hc hfl hpl Q s h ι a w hr
    simp only [cCode, Option.some.injEq] at hc; subst hc
    exact wpIn_skip (Post.refl h hr)
  | region id ops draw =>
    intro ro B mc hc hfl hpl Q s h ι a w hr
    cases draw with
    | false =>
      simp only [cCode] at hc
      split at hc
      · rename_i l hl
        simp only [Option.some.injEq] at hc; subst hc
        exact wpIn_region (ops_sound _ l s ι a w hl h hr (HExt.refl _ _ _))
      · exact dfr_sound hc hfl hpl h ι a w hr
    | true =>
      simp only [cCode] at hc
      exact draw_sound (id := id) hmx hc h ι a w hr
  | seq x y ihx ihy =>
    intro ro B mc hc hfl hpl Q s h ι a w hr
    simp only [cCode] at hc
    split at hc
    · rename_i mx my hx hy
      simp only [Option.some.injEq] at hc; subst hc
      simp only [mwp] at h
      refine wpIn_seq (wpIn_mono (ihx ro B mx hx (hfl.imp_right fun h => by simp only [MC.flat, Bool.and_eq_true] at h; exact h.1) (hpl.imp_right fun h => by simp only [MC.plain, Bool.and_eq_true] at h; exact h.1) _ s h ι a w hr) ?_)
      rintro e a' w' ⟨s', ι', hq, hr', hE⟩
      cases e with
      | normal => exact wpIn_mono (ihy ro B my hy (hfl.imp_right fun h => by simp only [MC.flat, Bool.and_eq_true] at h; exact h.2) (hpl.imp_right fun h => by simp only [MC.plain, Bool.and_eq_true] at h; exact h.2) Q s' hq ι' a' w' hr') fun e a2 w2 hp => hp.trans hE
      | _ => exact ⟨s', ι', hq, hr', hE⟩
    · cases hc
  | cond x y z ihy ihz =>
    intro ro B mc hc hfl hpl Q s h ι a w hr
    simp only [cCode] at hc
    split at hc
    · rename_i mx my mz hx hy hz
      simp only [Option.some.injEq] at hc; subst hc
      simp only [mwp, mcond] at h
      split at h
      · rename_i b hb
        have e1 := ev_rel hr.tmps hx
        rw [hb] at e1
        simp only [VRel] at e1
        exact wpIn_cond_split e1 (fun ht => ihy ro B my hy (hfl.imp_right fun h => by simp only [MC.flat, Bool.and_eq_true] at h; exact h.1) (hpl.imp_right fun h => by simp only [MC.plain, Bool.and_eq_true] at h; exact h.1) Q s (h.1 ht) ι a w hr) (fun hf => ihz ro B mz hz (hfl.imp_right fun h => by simp only [MC.flat, Bool.and_eq_true] at h; exact h.2) (hpl.imp_right fun h => by simp only [MC.plain, Bool.and_eq_true] at h; exact h.2) Q s (h.2 hf) ι a w hr)
      · exact h.elim
    · cases hc
  | block id x ih =>
    intro ro B mc hc hfl hpl Q s h ι a w hr
    simp only [cCode, Option.map_eq_some_iff] at hc
    obtain ⟨m, hm, rfl⟩ := hc
    refine wpIn_block (wpIn_mono (ih ro B m hm hfl hpl _ s h ι a w hr) ?_)
    rintro e a' w' ⟨s', ι', hq, hr', hE⟩
    cases e with
    | exit id' =>
      simp only [blockK] at hq
      simp only [Exit.inBlock]
      split <;> rename_i hid
      · rw [if_pos hid] at hq; exact ⟨s', ι', hq, hr', hE⟩
      · rw [if_neg hid] at hq; exact ⟨s', ι', hq, hr', hE⟩
    | _ => exact ⟨s', ι', hq, hr', hE⟩
  | loop x ih =>
    intro ro B mc hc hfl hpl Q s h ι a w hr
    simp only [cCode, Option.map_eq_some_iff] at hc
    obtain ⟨m, hm, rfl⟩ := hc
    simp only [mwp, mloop] at h
    obtain ⟨I, μ, h0, hround⟩ := h
    have key : ∀ n (s' : St) (ι' : Nat → Option Ref) (a' : Act) (w' : World), μ s' = n → I s' → Rel B N s' ι' a' w' → HExt ι s.H w ι' s'.H w' → InLoop ro P x (Post B N s ι w Q) a' w' := by
      intro n
      induction n using Nat.strongRecOn with
      | _ n ihn =>
        intro s' ι' a' w' hn hI hr' hE
        refine inLoop_of (wpIn_mono (ih ro B m hm hfl hpl _ s' (hround s' hI) ι' a' w' hr') ?_)
        rintro e a2 w2 ⟨s2, ι2, hq, hr2, hE2⟩
        cases e with
        | normal =>
          obtain ⟨hI2, hlt⟩ := hq
          exact ihn (μ s2) (hn ▸ hlt) s2 ι2 a2 w2 rfl hI2 hr2 (hE.trans hE2)
        | _ => exact ⟨s2, ι2, hq, hr2, hE.trans hE2⟩
    exact wp_of_inLoop (key _ s ι a w rfl h0 hr (HExt.refl _ _ _))
  | exit id =>
    intro ro B mc hc hfl hpl Q s h ι a w hr
    simp only [cCode, Option.some.injEq] at hc; subst hc
    exact wpIn_exit (Post.refl h hr)
  | ret =>
    intro ro B mc hc hfl hpl Q s h ι a w hr
    simp only [cCode, Option.some.injEq] at hc; subst hc
    exact wpIn_ret (Post.refl h hr)
  | rangeFunc g ps x y ihx ihy =>
    intro ro B mc hc hfl hpl Q s h ι a w hr
    simp only [cCode] at hc
    split at hc
    · rename_i mg mx my hg hx hy
      split at hc
      · rename_i hf
        simp only [Option.some.injEq] at hc; subst hc
        rcases hfl with rfl | hfl
        · exact rfunc_sound hg (fun p hp => by have := hf.2.2; rw [List.all_eq_true] at this; simpa using this p hp) (fun ro B Q s h => ihx ro B mx hx (.inr hf.1) (.inr (MC.flat_plain hf.1)) Q s h) (fun ro B Q s h => ihy ro B my hy (.inr hf.2.1) (.inr (MC.flat_plain hf.2.1)) Q s h) h ι a w hr
        · simp [MC.flat] at hfl
      · cases hc
    · cases hc
  | scope x ih =>
    intro ro B mc hc hfl hpl Q s h ι a w hr
    simp only [cCode, Option.map_eq_some_iff] at hc
    obtain ⟨m, hm, rfl⟩ := hc
    refine wpIn_scope (wpIn_mono (ih ro B m hm hfl hpl _ s h ι a w hr) ?_)
    rintro e a' w' ⟨s', ι', hq, hr', hE⟩
    cases e with
    | goto l => exact hq
    | _ => exact ⟨s', ι', hq, hr', hE⟩
  | label l =>
    intro ro B mc hc hfl hpl Q s h ι a w hr
    simp only [cCode, Option.some.injEq] at hc; subst hc
    exact wpIn_label (Post.refl h hr)
  | _ => intro ro B mc hc; simp [cCode] at hc

inductive RV where
  | t (i : Nat)
  | c (i n : Nat) (ag : Bool)

def RV.get (s : St) : RV → Option AV
  | .t i => some (s.τ i)
  | .c i n ag => match s.H.read (s.τ i) n with
    | some cs => packC ag cs
    | none => none

def RV.all (s : St) : List RV → Option (List AV)
  | [] => some []
  | r :: l => match r.get s, RV.all s l with
    | some a, some b => some (a :: b)
    | _, _ => none

def cRV (P : Program) : List ResultVar → Option (List RV)
  | [] => some []
  | .tmp t :: r => (cRV P r).map (.t t :: ·)
  | .cell a t :: r => match cT P t, cRV P r with
    | some (n, ag), some l => some (.c a n ag :: l)
    | _, _ => none

def tupleOf : List AV → AV
  | [a] => a
  | l => .tuple l

def retK (rs : List RV) (R : AV → Heap → Prop) (e : Exit) (s : St) : Prop :=
  match e with
  | .normal | .ret => match RV.all s rs with
    | some l => R (tupleOf l) s.H
    | none => False
  | _ => False

def init (args : List AV) : Nat → AV := fun i => args.getD i (.tuple [])

def resOne (tmps : Array Value) : ResultVar → Sem Value
  | .tmp t => pure (tmps.getD t undef)
  | .cell p t => do loadVar t (← asAddr (tmps.getD p undef))

theorem results_eq (fn : Func) (tmps : Array Value) : results fn tmps = (fn.results.mapM (resOne tmps)) >>= fun vs => pure (if h : vs.size = 1 then vs[0] else .tuple vs) := by
  unfold results
  congr 1

theorem results_rel {P : Program} {B : Bs} {N : Nat} {s : St} {ι : Nat → Option Ref} {a : Act} {w : World} (hr : Rel B N s ι a w) : ∀ (vs : List ResultVar) (rs : List RV) (l : List AV), cRV P vs = some rs → RV.all s rs = some l →
    ∃ us, (vs.mapM (resOne a.tmps)).run P w = .ok us w ∧ VRelL ι l us
  | [], rs, l, h, hl => by
    simp only [cRV, Option.some.injEq] at h; subst h
    simp only [RV.all, Option.some.injEq] at hl; subst hl
    exact ⟨[], by simp, by simp [VRelL]⟩
  | .tmp t :: vs, rs, l, h, hl => by
    simp only [cRV, Option.map_eq_some_iff] at h
    obtain ⟨rs', h', rfl⟩ := h
    simp only [RV.all, RV.get] at hl
    split at hl
    · rename_i x b hx hb
      simp only [Option.some.injEq] at hx hl; subst hx; subst hl
      obtain ⟨us, hu, hrel⟩ := results_rel hr vs rs' b h' hb
      refine ⟨a.tmps.getD t undef :: us, ?_, by simp only [VRelL]; exact ⟨_, _, rfl, hr.tmps t, hrel⟩⟩
      simp only [List.mapM_cons, resOne, Sem.run_bind, Sem.run_pure, Result.andThen_ok] at hu ⊢
      simp only [resOne, hu, Result.andThen_ok]
    · cases hl
  | .cell p t :: vs, rs, l, h, hl => by
    simp only [cRV] at h
    split at h
    · rename_i n ag rs' hT h'
      simp only [Option.some.injEq] at h; subst h
      simp only [RV.all, RV.get] at hl
      split at hl
      · rename_i x b hx hb
        simp only [Option.some.injEq] at hl; subst hl
        split at hx
        · rename_i cs hcs
          obtain ⟨us, hu, hrel⟩ := results_rel hr vs rs' b h' hb
          have e1 := hr.tmps p
          cases hq : s.τ p with
          | ptr id off =>
            rw [hq] at hcs e1
            simp only [VRel] at e1
            obtain ⟨r0, hr0, hv⟩ := e1
            obtain ⟨r1, ws, hr1, hrel1, hlen, hcell⟩ := hr.heap.read hcs
            rw [hr0] at hr1; injection hr1 with e; subst e
            have hul : ws.length = n := by rw [← hrel1.length, hlen]
            have hL := run_loadVar_of (P := P) (w := w) (t := t) (ag := ag) (us := ws) (by rw [hul]; exact hT) (ad := ⟨r0.row, r0.off + off, none⟩) (fun j u hj => by rw [add_lit]; exact hcell j u hj)
            have hA : (asAddr (a.tmps.getD p undef)).run P w = .ok ⟨r0.row, r0.off + off, none⟩ w := by rw [hv]; rfl
            rcases packC_rel hx hrel1 with ⟨hag, hr2⟩ | ⟨hag, u, hu2, hr2⟩
            · refine ⟨.agg ws.toArray :: us, ?_, by simp only [VRelL]; exact ⟨_, _, rfl, hr2, hrel⟩⟩
              simp only [List.mapM_cons, Sem.run_bind, resOne, hA, Sem.run_pure, Result.andThen_ok, hL.1 hag]
              simp only [hu, Result.andThen_ok]
            · refine ⟨u :: us, ?_, by simp only [VRelL]; exact ⟨_, _, rfl, hr2, hrel⟩⟩
              simp only [List.mapM_cons, Sem.run_bind, resOne, hA, Sem.run_pure, Result.andThen_ok, hL.2 u hag hu2]
              simp only [hu, Result.andThen_ok]
          | gl g off =>
            rw [hq] at hcs e1
            simp only [VRel] at e1
            obtain ⟨ws, hrel1, hlen, hcell⟩ := hr.heap.readg hcs
            have hul : ws.length = n := by rw [← hrel1.length, hlen]
            have hL := run_loadVar_of (P := P) (w := w) (t := t) (ag := ag) (us := ws) (by rw [hul]; exact hT) (ad := ⟨g, off, none⟩) (fun j u hj => by rw [add_lit]; exact hcell j u hj)
            have hA : (asAddr (a.tmps.getD p undef)).run P w = .ok ⟨g, off, none⟩ w := by rw [e1]; rfl
            rcases packC_rel hx hrel1 with ⟨hag, hr2⟩ | ⟨hag, u, hu2, hr2⟩
            · refine ⟨.agg ws.toArray :: us, ?_, by simp only [VRelL]; exact ⟨_, _, rfl, hr2, hrel⟩⟩
              simp only [List.mapM_cons, Sem.run_bind, resOne, hA, Sem.run_pure, Result.andThen_ok, hL.1 hag]
              simp only [hu, Result.andThen_ok]
            · refine ⟨u :: us, ?_, by simp only [VRelL]; exact ⟨_, _, rfl, hr2, hrel⟩⟩
              simp only [List.mapM_cons, Sem.run_bind, resOne, hA, Sem.run_pure, Result.andThen_ok, hL.2 u hag hu2]
              simp only [hu, Result.andThen_ok]
          | _ => rw [hq] at hcs; simp [Heap.read] at hcs
        · cases hx
      · cases hl
    · cases h

/-- a block that is no cells is changed -/
theorem HRel.turn {ι : Nat → Option Ref} {H : Heap} {w : World} (h : HRel ι H w) {r : Nat} {x y : Option (List Deferred)} (hr : w.heap[r]? = some (.deferred x)) : HRel ι H (w.putObj r (.deferred y)) := by
  have hsame : ∀ k, k ≠ r → (w.putObj r (.deferred y)).heap[k]? = w.heap[k]? := fun k hk => World.putObj_heap_other hk
  refine ⟨h.fresh, fun id b hb => ?_, h.apart, fun id o ho => ?_, h.oapart, h.gl⟩
  · obtain ⟨q, h1, h2⟩ := h.blk id b hb
    refine ⟨q, h1, ?_⟩
    by_cases hq : q.row = r
    · unfold BlkRel at h2 ⊢
      split at h2
      · obtain ⟨c, e, k3, _⟩ := h2
        rw [hq, hr] at k3; cases k3
      · intro i a ha
        obtain ⟨v, hv, _⟩ := h2 i a ha
        simp [World.cell?, hq, hr] at hv
    · exact h2.keep (hsame _ hq)
  · obtain ⟨q, h1, h2⟩ := h.obs id o ho
    refine ⟨q, h1, h2.keep (hsame _ (fun e => ?_))⟩
    obtain ⟨x0, k1, k2⟩ := h2.row
    rw [e, hr] at k1; cases k1; cases k2

theorem HExt.turn {ι ι' : Nat → Option Ref} {H H' : Heap} {w w' : World} (h : HExt ι H w ι' H' w') {r : Nat} (o : Obj) (hr : w.heap.size ≤ r) : HExt ι H w ι' H' (w'.putObj r o) :=
  ⟨h.le, h.size, by simpa [World.putObj] using h.wsize, h.os, h.tape, h.output, fun k hk h1 h2 => (World.putObj_heap_other (by omega)).trans (h.rows k hk h1 h2), h.news, h.newo⟩

/-- a mark is struck: the others stand -/
theorem Marks.struck {ι : Nat → Option Ref} {b : Nat} {w : World} {r : Nat} (o : Obj) : ∀ {l : List Deferred} {dv : List AV}, Marks ι b w dv l → (∀ e ∈ l, e.target ≠ .collected r) → Marks ι b (w.putObj r o) dv l
  | [], _, h, _ => by simp only [Marks, World.putObj_size] at h ⊢; exact h
  | d :: l, dv, .inl ⟨⟨q, h1, h2, h3, h4⟩, h5⟩, hn => by
    refine .inl ⟨⟨q, h1, h2, ?_, h4⟩, Marks.struck o h5 fun e he => hn e (by simp [he])⟩
    rw [World.putObj_heap_other (fun e => hn d (by simp) (by rw [h1, e]))]; exact h3
  | d :: l, dv, .inr ⟨y, dv', h1, h2, h3⟩, hn => .inr ⟨y, dv', h1, h2, Marks.struck o h3 fun e he => hn e (by simp [he])⟩

/-- a deferred call, in whatever memory -/
def ADefers (P : Program) (f : FuncId) (args : List AV) (H : Heap) (R : AV → Heap → Prop) : Prop :=
  ∀ ι w (us : Array Value), HRel ι H w → VRelL ι args us.toList →
    CallsDIn Fence.wide 0 P f us .returning w fun e u' w' => u' = .returning ∧ ∃ r u H' ι', e = .returned u ∧ R r H' ∧ VRel ι' r u ∧ HRel ι' H' w' ∧ HExt ι H w ι' H' w'

/-- the deferred calls, the last one laid first -/
def mleave (P : Program) (K : Heap → Prop) : List AV → Heap → Prop
  | [], H => K H
  | d :: dv, H => ∃ f avs, d = .agg (.func f [] :: avs) ∧ Callable P f ∧ ∃ R, ADefers P f avs H R ∧ ∀ r H', R r H' → mleave P K dv H'

/-- a function leaves: the marks of its ranges over functions are struck, its deferred calls are made -/
theorem leaves_all {P : Program} {fn : Func} {tmps : Array Value} {τ : Nat → AV} {b : Nat} {ι : Nat → Option Ref} {H : Heap} {w : World} {K : Heap → Prop} {R : Ending → World → Prop}
    (fin : ∀ (ι' : Nat → Option Ref) (H' : Heap) (w' : World), K H' → HRel ι' H' w' → TRel ι' τ tmps → HExt ι H w ι' H' w' → ∃ v, (results fn tmps).run P w' = .ok v w' ∧ R (.returned v) w') :
    ∀ (ds : List Deferred) (dv : List AV) (ι' : Nat → Option Ref) (H' : Heap) (w' : World), b = w.heap.size → Marks ι' b w' dv ds → HRel ι' H' w' → TRel ι' τ tmps → HExt ι H w ι' H' w' → mleave P K dv H' → LeavesInM Fence.wide 0 P fn tmps R ds .returning w'
  | [], dv, ι', H', w', hb, hM, hH, hT, hE, h => by
    obtain rfl := hM.1
    exact fin ι' H' w' h hH hT hE
  | d :: ds, dv, ι', H', w', hb, .inl ⟨⟨r, h1, h2, h3, h4⟩, h5⟩, hH, hT, hE, h => by
    refine ⟨by simp, .inl ⟨r, _, by rw [h1], run_takeDeferred h3, ?_⟩⟩
    exact leaves_all fin ds dv ι' H' _ hb (h5.struck _ h4) (hH.turn h3) hT (hE.turn _ (hb ▸ h2)) h
  | d :: ds, dv, ι', H', w', hb, .inr ⟨x, dv', e0, ⟨f, avs, us, vs, e1, e2, e3⟩, h5⟩, hH, hT, hE, h => by
    subst e0
    obtain ⟨f', avs', g1, hcb, R', hR, hk⟩ := h
    rw [e1] at g1
    injection g1 with g1
    injection g1 with g1 g2
    injection g1 with g1
    subst g1; subst g2
    refine ⟨by simp, .inr ⟨fun h => (by cases h), .func f, vs, f, us ++ vs, by rw [e2], ?_, fun _ _ => trivial, ?_⟩⟩
    · rw [e2]; simp [invoke, run_callFunc hcb]
    refine (hR ι' w' (us ++ vs) hH e3).mono ?_
    rintro e u' w2 ⟨rfl, r, u, H2, ι2, rfl, hRr, _, hH2, hE2⟩
    exact leaves_all fin ds dv' ι2 H2 w2 hb (Marks.ext hH hE2 h5) hH2 (hT.mono hE2.le) (hE.trans hE2) (hk r H2 hRr)

/-- what a function hands back, once nothing is deferred any more -/
theorem results_fin {P : Program} {fn : Func} {tmps : Array Value} {rs : List RV} (hrs : cRV P fn.results.toList = some rs) {τ : Nat → AV} {ι ι' : Nat → Option Ref} {H H' : Heap} {w w' : World} {R : AV → Heap → Prop}
    (hq : match RV.all ⟨τ, H'⟩ rs with | some l => R (tupleOf l) H' | none => False) (hH : HRel ι' H' w') (hT : TRel ι' τ tmps) (hE : HExt ι H w ι' H' w') :
    ∃ v, (results fn tmps).run P w' = .ok v w' ∧ ∃ r u H' ι', Ending.returned v = .returned u ∧ R r H' ∧ VRel ι' r u ∧ HRel ι' H' w' ∧ HExt ι H w ι' H' w' := by
  have hr' : Rel ⟨w'.heap.size, none⟩ tmps.size ⟨τ, H'⟩ ι' { tmps := tmps, defers := [] } w' := ⟨⟨rfl, Nat.le_refl _⟩, fun n h => (by cases h), rfl, hT, hH⟩
  cases hall : RV.all ⟨τ, H'⟩ rs with
  | none => rw [hall] at hq; exact hq.elim
  | some l =>
    rw [hall] at hq
    obtain ⟨vs, hvs, hrel⟩ := results_rel (P := P) hr' _ rs l hrs hall
    have hm : (fn.results.mapM (resOne tmps)).run P w' = .ok vs.toArray w' := by
      rw [Array.mapM_eq_mapM_toList]
      simp only [Sem.run_map, hvs, Result.andThen_ok]
    have hll := hrel.length
    by_cases h1 : vs.length = 1
    · obtain ⟨v, rfl⟩ := List.length_eq_one_iff.1 h1
      obtain ⟨x, rfl⟩ := List.length_eq_one_iff.1 hll
      simp only [VRelL] at hrel
      obtain ⟨v', r', he, hx, _⟩ := hrel
      injection he with he1 he2; subst he1
      refine ⟨v, ?_, x, v, H', ι', rfl, hq, hx, hH, hE⟩
      rw [results_eq]
      simp only [Sem.run_bind, hm, Result.andThen_ok]
      simp
    · refine ⟨.tuple vs.toArray, ?_, tupleOf l, .tuple vs.toArray, H', ι', rfl, hq, ?_, hH, hE⟩
      · rw [results_eq]
        simp only [Sem.run_bind, hm, Result.andThen_ok]
        simp [h1]
      · match l, hll with
        | [], hll => simp only [tupleOf, VRel]; exact ⟨_, rfl, by simpa using hrel⟩
        | [x], hll => simp only [List.length_singleton] at hll; omega
        | x :: y :: r, hll => simp only [tupleOf, VRel]; exact ⟨_, rfl, by simpa using hrel⟩

theorem init_rel {fn : Func} {B : Bs} {args : List AV} {us : Array Value} {ι : Nat → Option Ref} {H : Heap} {w : World} (hB : B.b ≤ w.heap.size) (hn : args.length ≤ fn.ntmps) (hd : ∀ n, B.d = some n → n = fn.ntmps) (hH : HRel ι H w) (hus : VRelL ι args us.toList) :
    Rel B fn.ntmps ⟨init args, H⟩ ι { tmps := us ++ Array.replicate (fn.ntmps - us.size) undef, defers := [] } w := by
  have hlen : args.length = us.size := by rw [hus.length]; simp
  refine ⟨⟨?_, hB⟩, fun n h => by rw [hd n h]; exact Nat.le_refl _, by simp; omega, ?_, hH⟩
  · unfold dvOf
    cases hB2 : B.d with
    | none => rfl
    | some n =>
      have := hd n hB2
      show tupL (init args n) = []
      simp only [init]
      rw [List.getD, List.getElem?_eq_none (by omega)]; rfl
  intro i
  simp only [init]
  rw [Array.getD_eq_getD_getElem?]
  by_cases hi : i < us.size
  · have hi' : i < args.length := by omega
    rw [Array.getElem?_append_left hi, List.getD, List.getElem?_eq_getElem hi', Array.getElem?_eq_getElem hi]
    exact ((VRelL.iff _ _).1 hus).2 i _ _ (List.getElem?_eq_getElem hi') (by simp [hi])
  · rw [List.getD, List.getElem?_eq_none (by omega)]
    have : (us ++ Array.replicate (fn.ntmps - us.size) undef)[i]?.getD undef = undef := by
      rw [Array.getElem?_append_right (by omega), Array.getElem?_replicate]
      split <;> rfl
    rw [this]
    exact undef_rel ι

/-- what is asked at the end of a function that defers calls -/
def retD (P : Program) (N : Nat) (rs : List RV) (R : AV → Heap → Prop) (e : Exit) (s : St) : Prop :=
  match e with
  | .normal | .ret => mleave P (fun H' => match RV.all ⟨s.τ, H'⟩ rs with | some l => R (tupleOf l) H' | none => False) (tupL (s.τ N)) s.H
  | _ => False

/-- a function, by its code -/
theorem acalls {P : Program} {f : FuncId} {fn : Func} {c : Code} {mc : MC} {rs : List RV} {args : List AV} {H : Heap} {R : AV → Heap → Prop}
    (hmx : P.follows .mixedOrders = true) (hf : P.funcs[f]? = some fn) (hb : fn.body = some c) (hc : cCode P fn.ntmps c = some mc) (hrs : cRV P fn.results.toList = some rs) (hpl : mc.plain = true) (hn : args.length ≤ fn.ntmps)
    (h : mwp P mc (retK rs R) ⟨init args, H⟩) : ACalls P f args H R := by
  intro ι w us hH hus
  refine callsIn_wide (n := 0).1 (callsIn_of_wp_marks hf hb trivial ?_)
  have hrel := init_rel (B := ⟨w.heap.size, none⟩) (Nat.le_refl _) hn (fun n h => (by cases h)) hH hus
  refine wpIn_mono (code_sound hmx c none _ mc hc (.inl rfl) (.inr hpl) _ _ h ι _ w hrel) ?_
  rintro e a' w' ⟨s', ι', hq, hr', hE⟩
  have fin : (match RV.all s' rs with | some l => R (tupleOf l) s'.H | none => False) → LeavesInM Fence.wide 0 P fn a'.tmps (fun e w' => ∃ r u H' ι', e = .returned u ∧ R r H' ∧ VRel ι' r u ∧ HRel ι' H' w' ∧ HExt ι H w ι' H' w') a'.defers .returning w' := by
    intro hq
    exact leaves_all (τ := s'.τ) (K := fun H' => match RV.all ⟨s'.τ, H'⟩ rs with | some l => R (tupleOf l) H' | none => False) (fun ι2 H2 w2 hK hH2 hT hE2 => results_fin hrs hK hH2 hT hE2) _ _ ι' s'.H w' rfl hr'.defers hr'.heap hr'.tmps hE hq
  cases e with
  | normal => exact fin hq
  | ret => exact fin hq
  | _ => exact hq.elim

/-- a function that defers calls -/
theorem acallsD {P : Program} {f : FuncId} {fn : Func} {c : Code} {mc : MC} {rs : List RV} {args : List AV} {H : Heap} {R : AV → Heap → Prop}
    (hmx : P.follows .mixedOrders = true) (hf : P.funcs[f]? = some fn) (hb : fn.body = some c) (hc : cCode P fn.ntmps c = some mc) (hrs : cRV P fn.results.toList = some rs) (hn : args.length ≤ fn.ntmps)
    (h : mwp P mc (retD P fn.ntmps rs R) ⟨init args, H⟩) : ACalls P f args H R := by
  intro ι w us hH hus
  refine callsIn_wide (n := 0).1 (callsIn_of_wp_marks hf hb trivial ?_)
  have hrel := init_rel (B := ⟨w.heap.size, some fn.ntmps⟩) (Nat.le_refl _) hn (fun n h => (by injection h with h; exact h.symm)) hH hus
  refine wpIn_mono (code_sound hmx c none _ mc hc (.inl rfl) (.inl rfl) _ _ h ι _ w hrel) ?_
  rintro e a' w' ⟨s', ι', hq, hr', hE⟩
  have fin : mleave P (fun H' => match RV.all ⟨s'.τ, H'⟩ rs with | some l => R (tupleOf l) H' | none => False) (tupL (s'.τ fn.ntmps)) s'.H → LeavesInM Fence.wide 0 P fn a'.tmps (fun e w' => ∃ r u H' ι', e = .returned u ∧ R r H' ∧ VRel ι' r u ∧ HRel ι' H' w' ∧ HExt ι H w ι' H' w') a'.defers .returning w' := by
    intro hq
    exact leaves_all (τ := s'.τ) (K := fun H' => match RV.all ⟨s'.τ, H'⟩ rs with | some l => R (tupleOf l) H' | none => False) (fun ι2 H2 w2 hK hH2 hT hE2 => results_fin hrs hK hH2 hT hE2) _ _ ι' s'.H w' rfl hr'.defers hr'.heap hr'.tmps hE hq
  cases e with
  | normal => exact fin hq
  | ret => exact fin hq
  | _ => exact hq.elim

/-- marks struck by a frame on its way out -/
def Strk (P : Program) (K : World → Prop) : List Deferred → World → Prop
  | [], w => K w
  | d :: ds, w => ∃ r w', d.target = .collected r ∧ (Instr.takeDeferred r).run P w = .ok [] w' ∧ Strk P K ds w'

theorem strk_steps {P : Program} {F : Fence} {n : Nat} {K : World → Prop} : ∀ (ds : List Deferred) (w : World) (fr : Frame) (cs : List Frame), fr.mode = .returning → fr.defers = ds → F.fn fr.fn → F.room (cs.length + 1 + n) → Strk P K ds w →
    ∃ w', K w' ∧ StepsIn (Machine.fenced P F) P (lone fr cs w) (lone { fr with defers := [] } cs w')
  | [], w, fr, cs, hm, hd, hb, hr, h => ⟨w, h, by
    have : ({ fr with defers := [] } : Frame) = fr := by cases fr; simp_all
    rw [this]; exact StepsIn.refl _⟩
  | d :: ds, w, fr, cs, hm, hd, hb, hr, ⟨r, w', ht, hk, h⟩ => by
    have hm' : fr.mode ≠ .run := by rw [hm]; simp
    have h1 := step_collected (cs := cs) hm' hd ht hk
    have i1 : (lone fr cs w).fenced P F := fenced_out hb hr hm' hd (fun g hg => by rw [ht] at hg; simp [Target.leads] at hg)
    obtain ⟨w2, hK, hs⟩ := strk_steps ds w' { fr with defers := [] ++ ds } cs hm rfl hb hr h
    exact ⟨w2, hK, .head i1 h1 hs⟩

/-- a function entered as a deferred call; it defers nothing itself -/
theorem callsDIn_of_strk {P : Program} {F : Fence} {n : Nat} {f : FuncId} {fn : Func} {c : Code} {args : Array Value} {u : FrameMode} {w : World} {R : Ending → World → Prop}
    (hf : P.funcs[f]? = some fn) (hb : fn.body = some c) (hF : F.fn f)
    (h : c.wpIn F n P (fun e a w => match e with | .normal | .ret => Strk P (fun w' => ∃ v, (results fn a.tmps).run P w' = .ok v w' ∧ R (.returned v) w') a.defers w | _ => False) { tmps := args ++ Array.replicate (fn.ntmps - args.size) undef, defers := [] } w) (hro : F.round = none := by rfl) :
    CallsDIn F n P f args u w fun e u' w' => u' = u ∧ R e w' := by
  refine ⟨hF, fun c₀ cs hu hr => ?_⟩
  let b : Frame := { (default : Frame) with fn := f, kind := .deferred, roundOf := none }
  have henter : Frame.enter P f args .deferred =
      b.atR { tmps := args ++ Array.replicate (fn.ntmps - args.size) undef, defers := [] } [.code c] := by
    simp [Frame.enter, Frame.atR, hf, hb, b]
  have hc : ({ c₀ with mode := u } : Frame) = c₀ := by subst hu; rfl
  obtain ⟨e, a', w', hq, harr⟩ := h b [] (c₀ :: cs) hro.symm hF hr
  rw [← henter] at harr
  cases e with
  | normal =>
    obtain ⟨w2, ⟨v, hr', hR⟩, hs⟩ := strk_steps (n := n) a'.defers w' { b.atR a' [] with mode := .returning } (c₀ :: cs) rfl rfl hF hr hq
    exact ⟨.returned v, u, w2, _, ⟨rfl, hR⟩, (by rw [hc]; exact StepsIn.trans harr (.head (fenced_calm (fr := b.atR a' []) hF hr rfl) (stepR_end rfl) hs)), rfl, rfl, rfl, rfl, fn, hf, hr'⟩
  | ret =>
    obtain ⟨todo, hs0⟩ := harr.1 rfl
    obtain ⟨w2, ⟨v, hr', hR⟩, hs⟩ := strk_steps (n := n) a'.defers w' { b.atR a' todo with mode := .returning } (c₀ :: cs) rfl rfl hF hr hq
    exact ⟨.returned v, u, w2, _, ⟨rfl, hR⟩, (by rw [hc]; exact StepsIn.trans hs0 hs), rfl, rfl, rfl, rfl, fn, hf, hr'⟩
  | _ => exact hq.elim

theorem marks_strk {P : Program} {ι : Nat → Option Ref} {H0 : Heap} {ι0 : Nat → Option Ref} {w0 : World} {H : Heap} {K : World → Prop} {tmps : Array Value} {τ : Nat → AV}
    (fin : ∀ w', HRel ι H w' → HExt ι0 H0 w0 ι H w' → K w') : ∀ (ds : List Deferred) (w : World), Marks ι w0.heap.size w [] ds → HRel ι H w → HExt ι0 H0 w0 ι H w → Strk P K ds w
  | [], w, _, hH, hE => fin w hH hE
  | d :: ds, w, .inl ⟨⟨r, h1, h2, h3, h4⟩, h5⟩, hH, hE => ⟨r, _, by rw [h1], run_takeDeferred h3, marks_strk (tmps := tmps) (τ := τ) fin ds _ (h5.struck _ h4) (hH.turn h3) (hE.turn _ h2)⟩
  | d :: ds, w, .inr ⟨x, dv', h, _, _⟩, _, _ => by cases h

/-- a function, entered as a deferred call, by its code -/
theorem adefers {P : Program} {f : FuncId} {fn : Func} {c : Code} {mc : MC} {rs : List RV} {args : List AV} {H : Heap} {R : AV → Heap → Prop}
    (hmx : P.follows .mixedOrders = true) (hf : P.funcs[f]? = some fn) (hb : fn.body = some c) (hc : cCode P fn.ntmps c = some mc) (hrs : cRV P fn.results.toList = some rs) (hpl : mc.plain = true) (hn : args.length ≤ fn.ntmps)
    (h : mwp P mc (retK rs R) ⟨init args, H⟩) : ADefers P f args H R := by
  intro ι w us hH hus
  refine (callsDIn_of_strk (F := Fence.wide) (n := 0) (u := .returning) (R := fun e w' => ∃ r u H' ι', e = .returned u ∧ R r H' ∧ VRel ι' r u ∧ HRel ι' H' w' ∧ HExt ι H w ι' H' w') hf hb trivial ?_).mono (fun e u' w' h => h)
  have hrel := init_rel (B := ⟨w.heap.size, none⟩) (Nat.le_refl _) hn (fun n h => (by cases h)) hH hus
  refine wpIn_mono (code_sound hmx c none _ mc hc (.inl rfl) (.inr hpl) _ _ h ι _ w hrel) ?_
  rintro e a' w' ⟨s', ι', hq, hr', hE⟩
  cases e with
  | normal => exact marks_strk (tmps := a'.tmps) (τ := s'.τ) (fun w2 hH2 hE2 => results_fin hrs (τ := s'.τ) (H' := s'.H) hq hH2 hr'.tmps hE2) _ w' hr'.defers hr'.heap hE
  | ret => exact marks_strk (tmps := a'.tmps) (τ := s'.τ) (fun w2 hH2 hE2 => results_fin hrs (τ := s'.τ) (H' := s'.H) hq hH2 hr'.tmps hE2) _ w' hr'.defers hr'.heap hE
  | _ => exact hq.elim

end Go.Rx
