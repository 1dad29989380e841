/-
  RxA: a little abstract machine: values, heap, one-step meaning of operations. Nothing of a program is read here.
-/
import Derived.Calls
import Derived.Laws.AppendOwn
import Derived.Laws.MakeOwn
namespace Go.Rx
set_option linter.unusedVariables false

/-- abstract values: addresses are places of abstract blocks -/
inductive AV where
  | any
  | bool (b : Bool)
  | int (k : IntKind) (n : Int)
  | str (s : List UInt8)
  | ptr (id off : Nat)
  | gl (g off : Nat)
  | nilPtr
  | slice (id off len : Nat) (cap : Option Nat) (es : Nat)
  | nilSlice
  | func (f : FuncId) (cap : List AV)
  | bound (f : FuncId) (x : AV)
  | yld (id : Nat)
  | imeth (name : String) (t : TypeId) (v : AV)
  | nilFunc
  | iface (t : TypeId) (v : AV)
  | nilIface
  | agg (cells : List AV)
  | tuple (vs : List AV)
  | map (id : Nat)
  | nilMap
  | dfl (l : List AV)   -- no value: a function's deferred calls, kept in a slot of their own
  deriving Inhabited

/-- where an abstract block lies: its row, the first cell, how many cells there are from it on -/
structure Ref where
  row : Nat
  off : Nat
  room : Nat

mutual
/-- the value v is one of those that the abstract value stands for -/
def VRel (ι : Nat → Option Ref) : AV → Value → Prop
  | .any, _ => True
  | .bool b, v => v = .bool b
  | .int k n, v => v = .int k n
  | .str s, v => v = .string ⟨s.toArray⟩
  | .ptr id off, v => ∃ r, ι id = some r ∧ v = .pointer (some ⟨r.row, r.off + off, none⟩)
  | .nilPtr, v => v = .pointer none
  | .gl g off, v => v = .pointer (some ⟨g, off, none⟩)
  | .slice id off n cap es, v => ∃ r a c, ι id = some r ∧ v = .slice (some a) n c ∧ n ≤ c ∧ c ≤ maxLen ∧ (∀ k, cap = some k → c = k) ∧
      ((n = 0 ∧ c = 0) ∨ (a = ⟨r.row, r.off + off, none⟩ ∧ off + c * es ≤ r.room))
  | .nilSlice, v => v = .slice none 0 0
  | .func f cs, v => ∃ vs, v = .func (.func f) #[] vs ∧ VRelL ι cs vs.toList
  | .yld id, v => ∃ r, ι id = some r ∧ v = .func (.yield r.row) #[] #[]
  | .bound f x, v => ∃ y, v = .func (.func f) #[y] #[] ∧ VRel ι x y
  | .imeth name t x, v => ∃ y, v = .func (.method name) #[.iface t y] #[] ∧ VRel ι x y
  | .nilFunc, v => v = .nilFunc
  | .iface t x, v => ∃ y, v = .iface t y ∧ VRel ι x y
  | .nilIface, v => v = .nilIface
  | .agg cs, v => ∃ vs, v = .agg vs ∧ VRelL ι cs vs.toList
  | .tuple cs, v => ∃ vs, v = .tuple vs ∧ VRelL ι cs vs.toList
  | .map id, v => ∃ r, ι id = some r ∧ v = .map (some r.row)
  | .nilMap, v => v = .map none
  | .dfl _, _ => True
def VRelL (ι : Nat → Option Ref) : List AV → List Value → Prop
  | [], vs => vs = []
  | a :: l, vs => ∃ v r, vs = v :: r ∧ VRel ι a v ∧ VRelL ι l r
end

def Ref.le (ι ι' : Nat → Option Ref) : Prop := ∀ id r, ι id = some r → ι' id = some r

mutual
theorem VRel.mono {ι ι' : Nat → Option Ref} (h : Ref.le ι ι') : ∀ (a : AV) (v : Value), VRel ι a v → VRel ι' a v
  | .any, _, _ => by simp [VRel]
  | .bool b, v, hv => by simpa [VRel] using hv
  | .int k n, v, hv => by simpa [VRel] using hv
  | .str s, v, hv => by simpa [VRel] using hv
  | .ptr id off, v, hv => by
    simp only [VRel] at hv ⊢
    obtain ⟨r, hr, rfl⟩ := hv
    exact ⟨r, h _ _ hr, rfl⟩
  | .nilPtr, v, hv => by simpa [VRel] using hv
  | .gl g off, v, hv => by simpa [VRel] using hv
  | .slice id off n cap es, v, hv => by
    simp only [VRel] at hv ⊢
    obtain ⟨r, a, c, hr, rest⟩ := hv
    exact ⟨r, a, c, h _ _ hr, rest⟩
  | .nilSlice, v, hv => by simpa [VRel] using hv
  | .func f cs, v, hv => by
    simp only [VRel] at hv ⊢
    obtain ⟨vs, rfl, hl⟩ := hv
    exact ⟨vs, rfl, VRelL.mono h _ _ hl⟩
  | .yld id, v, hv => by
    simp only [VRel] at hv ⊢
    obtain ⟨r, hr, rfl⟩ := hv
    exact ⟨r, h _ _ hr, rfl⟩
  | .bound f x, v, hv => by
    simp only [VRel] at hv ⊢
    obtain ⟨y, rfl, hl⟩ := hv
    exact ⟨y, rfl, VRel.mono h _ _ hl⟩
  | .imeth name t x, v, hv => by
    simp only [VRel] at hv ⊢
    obtain ⟨y, rfl, hl⟩ := hv
    exact ⟨y, rfl, VRel.mono h _ _ hl⟩
  | .nilFunc, v, hv => by simpa [VRel] using hv
  | .iface t x, v, hv => by
    simp only [VRel] at hv ⊢
    obtain ⟨y, rfl, hl⟩ := hv
    exact ⟨y, rfl, VRel.mono h _ _ hl⟩
  | .nilIface, v, hv => by simpa [VRel] using hv
  | .agg cs, v, hv => by
    simp only [VRel] at hv ⊢
    obtain ⟨vs, rfl, hl⟩ := hv
    exact ⟨vs, rfl, VRelL.mono h _ _ hl⟩
  | .tuple cs, v, hv => by
    simp only [VRel] at hv ⊢
    obtain ⟨vs, rfl, hl⟩ := hv
    exact ⟨vs, rfl, VRelL.mono h _ _ hl⟩
  | .map id, v, hv => by
    simp only [VRel] at hv ⊢
    obtain ⟨r, hr, rfl⟩ := hv
    exact ⟨r, h _ _ hr, rfl⟩
  | .nilMap, v, hv => by simpa [VRel] using hv
  | .dfl _, _, _ => by simp [VRel]
theorem VRelL.mono {ι ι' : Nat → Option Ref} (h : Ref.le ι ι') : ∀ (a : List AV) (v : List Value), VRelL ι a v → VRelL ι' a v
  | [], v, hv => by simpa [VRelL] using hv
  | a :: l, v, hv => by
    simp only [VRelL] at hv ⊢
    obtain ⟨x, r, rfl, hx, hr⟩ := hv
    exact ⟨x, r, rfl, VRel.mono h _ _ hx, VRelL.mono h _ _ hr⟩
end

/-- lists, index by index -/
theorem VRelL.iff {ι : Nat → Option Ref} : ∀ (l : List AV) (vs : List Value), VRelL ι l vs ↔ l.length = vs.length ∧ ∀ (i : Nat) (a : AV) (v : Value), l[i]? = some a → vs[i]? = some v → VRel ι a v
  | [], vs => by
    simp only [VRelL]
    constructor
    · rintro rfl; simp
    · rintro ⟨h, _⟩; exact List.eq_nil_of_length_eq_zero (by simpa using h.symm)
  | a :: l, [] => by simp [VRelL]
  | a :: l, v :: vs => by
    simp only [VRelL]
    constructor
    · rintro ⟨v', r, he, hv, hr⟩
      injection he with e1 e2
      subst e1; subst e2
      have ih := (VRelL.iff l vs).1 hr
      refine ⟨by simp [ih.1], ?_⟩
      intro i x y hx hy
      cases i with
      | zero => simp at hx hy; subst hx; subst hy; exact hv
      | succ i => simp at hx hy; exact ih.2 i x y hx hy
    · rintro ⟨hl, h⟩
      refine ⟨v, vs, rfl, h 0 a v rfl rfl, (VRelL.iff l vs).2 ⟨by simpa using hl, fun i x y hx hy => h (i + 1) x y (by simpa using hx) (by simpa using hy)⟩⟩

theorem VRelL.append {ι : Nat → Option Ref} {l m : List AV} {vs ws : List Value} (h : VRelL ι l vs) (k : VRelL ι m ws) : VRelL ι (l ++ m) (vs ++ ws) := by
  rw [VRelL.iff] at *
  refine ⟨by simp [h.1, k.1], ?_⟩
  intro i a v ha hv
  rw [List.getElem?_append] at ha hv
  rw [h.1] at ha
  split at ha
  · rename_i hlt; rw [if_pos hlt] at hv; exact h.2 i a v ha hv
  · rename_i hlt; rw [if_neg hlt] at hv; exact k.2 _ a v ha hv

theorem VRelL.take {ι : Nat → Option Ref} {l : List AV} {vs : List Value} (n : Nat) (h : VRelL ι l vs) : VRelL ι (l.take n) (vs.take n) := by
  rw [VRelL.iff] at *
  refine ⟨by simp [h.1], ?_⟩
  intro i a v ha hv
  rw [List.getElem?_take] at ha hv
  split at ha
  · rename_i hlt; rw [if_pos hlt] at hv; exact h.2 i a v ha hv
  · cases ha

theorem VRelL.drop {ι : Nat → Option Ref} {l : List AV} {vs : List Value} (n : Nat) (h : VRelL ι l vs) : VRelL ι (l.drop n) (vs.drop n) := by
  rw [VRelL.iff] at *
  refine ⟨by simp [h.1], ?_⟩
  intro i a v ha hv
  rw [List.getElem?_drop] at ha hv
  exact h.2 _ a v ha hv

theorem VRelL.length {ι : Nat → Option Ref} {l : List AV} {vs : List Value} (h : VRelL ι l vs) : l.length = vs.length := ((VRelL.iff _ _).1 h).1

theorem VRelL.get {ι : Nat → Option Ref} {l : List AV} {vs : List Value} (h : VRelL ι l vs) {i : Nat} {a : AV} (ha : l[i]? = some a) : ∃ v, vs[i]? = some v ∧ VRel ι a v := by
  have h' := (VRelL.iff _ _).1 h
  have hi : i < l.length := by
    rcases Nat.lt_or_ge i l.length with h1 | h1
    · exact h1
    · rw [List.getElem?_eq_none h1] at ha; cases ha
  have hi' : i < vs.length := by rw [← h'.1]; exact hi
  exact ⟨vs[i], List.getElem?_eq_getElem hi', h'.2 i a _ ha (List.getElem?_eq_getElem hi')⟩

theorem VRelL.map {ι : Nat → Option Ref} {α : Type} (f : α → AV) (g : α → Value) : ∀ (l : List α), (∀ x ∈ l, VRel ι (f x) (g x)) → VRelL ι (l.map f) (l.map g)
  | [], _ => by simp [VRelL]
  | x :: l, h => by
    simp only [List.map_cons, VRelL]
    exact ⟨_, _, rfl, h x (by simp), VRelL.map f g l (fun y hy => h y (by simp [hy]))⟩

theorem VRelL.replicate {ι : Nat → Option Ref} {a : AV} {v : Value} (h : VRel ι a v) : ∀ n, VRelL ι (List.replicate n a) (List.replicate n v)
  | 0 => by simp [VRelL]
  | n + 1 => by
    simp only [List.replicate_succ, VRelL]
    exact ⟨_, _, rfl, h, VRelL.replicate h n⟩

/-- one cell: neither a struct nor a tuple nor what is not known -/
def AV.one : AV → Bool
  | .any | .agg _ | .tuple _ | .dfl _ => false
  | _ => true

theorem AV.one_cell {ι : Nat → Option Ref} {a : AV} {v : Value} (h : VRel ι a v) (h1 : a.one = true) : v.oneCell' = true := by
  cases a <;> simp [AV.one] at h1 <;> simp only [VRel] at h
  all_goals first
    | (subst h; rfl)
    | (obtain ⟨r, _, rfl⟩ := h; rfl)
    | (obtain ⟨r, a, c, _, rfl, _⟩ := h; rfl)
    | (obtain ⟨vs, rfl, _⟩ := h; rfl)

/-- the cells of a value -/
def AV.cells : AV → List AV
  | .agg cs => cs
  | a => [a]

theorem AV.cells_rel {ι : Nat → Option Ref} {a : AV} {v : Value} (h : VRel ι a v) (h1 : a.cells.all AV.one = true) : VRelL ι a.cells v.cells.toList := by
  cases a <;> simp [AV.cells, AV.one] at h1 <;> simp only [VRel] at h <;> simp only [AV.cells]
  all_goals first
    | (subst h; simp [Value.cells, VRelL, VRel]; done)
    | (obtain ⟨r, hr, rfl⟩ := h; simp [Value.cells, VRelL, VRel, hr]; done)
    | (obtain ⟨r, a, c, hr, rfl, rest⟩ := h; simp only [Value.cells, VRelL, VRel]; exact ⟨_, _, rfl, ⟨r, a, c, hr, rfl, rest⟩, rfl⟩)
    | (obtain ⟨vs, rfl, hl⟩ := h; first | exact hl | (simp only [Value.cells, VRelL, VRel]; exact ⟨_, _, rfl, ⟨_, rfl, hl⟩, rfl⟩))

structure Blk where
  rw : Bool
  cells : List AV

/-- an entry of a map -/
structure ME where
  key : AV
  val : AV
  born : Nat

/-- a map, or a range over one: which map, the clock when it began, the entries that have come, the clock at the last step -/
inductive MO where
  | map (es : List ME) (clock : Nat)
  | iter (m since : Nat) (seen : List Nat) (last : Nat)

/-- a range over a function: its record, and what the loop's slots held when it began; or (mo) a map or a range over one -/
structure OB where
  lp : Loop
  τ : Nat → AV
  mo : Option MO := none

/-- a map or a range over one -/
def obM (m : MO) : OB := { lp := default, τ := fun _ => .any, mo := some m }

structure Heap where
  size : Nat
  get : Nat → Option Blk
  ob : Nat → Option OB

def Heap.put (H : Heap) (id : Nat) (b : Option Blk) : Heap :=
  { size := H.size, get := fun i => if i = id then b else H.get i, ob := H.ob }

/-- a new block -/
def Heap.new (H : Heap) (id : Nat) (b : Option Blk) : Heap :=
  { size := if id < H.size then H.size else id + 1, get := fun i => if i = id then b else H.get i, ob := H.ob }

/-- the record of a range over a function -/
def Heap.seto (H : Heap) (id : Nat) (o : Option OB) : Heap :=
  { size := H.size, get := H.get, ob := fun i => if i = id then o else H.ob i }

def Heap.newo (H : Heap) (o : OB) : Heap :=
  { size := H.size + 1, get := H.get, ob := fun i => if i = H.size then some o else H.ob i }

structure St where
  τ : Nat → AV
  H : Heap

def upd (τ : Nat → AV) (d : Nat) (v : AV) : Nat → AV := fun i => if i = d then v else τ i

def St.put (s : St) (d : Option Nat) (v : AV) : St :=
  match d with
  | some d => ⟨upd s.τ d v, s.H⟩
  | none => s

/-- operands -/
inductive MX where
  | t (i : Nat)
  | c (v : AV)

def MX.ev (τ : Nat → AV) : MX → AV
  | .t i => τ i
  | .c v => v

def AV.isSlice : AV → Bool
  | .slice .. | .nilSlice => true
  | _ => false

/-- the length of a slice -/
def AV.len : AV → Nat
  | .slice _ _ n _ _ => n
  | _ => 0

/-- the cells of an element of a slice that is not nil -/
def AV.es : AV → Option Nat
  | .slice _ _ _ _ es => some es
  | _ => none

/-- the block of an address -/
def AV.bid : AV → Option Nat
  | .slice id _ _ _ _ => some id
  | .ptr id _ => some id
  | _ => none

/-- a slice's place number i -/
def AV.elem : AV → Nat → AV
  | .slice id off _ _ es, i => .ptr id (off + i * es)
  | _, _ => .any

/-- n cells from a place on -/
def Heap.read (H : Heap) (p : AV) (n : Nat) : Option (List AV) :=
  match p with
  | .ptr id off => match H.get id with
    | some b => if off + n ≤ b.cells.length then some ((b.cells.drop off).take n) else none
    | none => none
  | .gl g off => if g < 64 then (match H.get g with
    | some b => if off + n ≤ b.cells.length then some ((b.cells.drop off).take n) else none
    | none => none) else none
  | _ => none

/-- the first numbers are kept for the package's variables -/
def GlOk (ι : Nat → Option Ref) : Prop := ∀ g, g < 64 → ∃ r, ι g = some r ∧ r.row = g ∧ r.off = 0
theorem GlOk.le {ι ι' : Nat → Option Ref} (h : GlOk ι) (hle : Ref.le ι ι') : GlOk ι' := fun g hg => by
  obtain ⟨r, h1, h2⟩ := h g hg
  exact ⟨r, hle _ _ h1, h2⟩

/-- cells laid at a place -/
def Heap.write (H : Heap) (p : AV) (vs : List AV) : Option Heap :=
  match p with
  | .ptr id off => match H.get id with
    | some b => if b.rw = true ∧ off + vs.length ≤ b.cells.length ∧ vs.all AV.one = true then some (H.put id (some ⟨true, b.cells.take off ++ vs ++ b.cells.drop (off + vs.length)⟩)) else none
    | none => none
  | _ => none

/-- all cells of a slice -/
def Heap.row (H : Heap) (v : AV) : Option (List AV) :=
  match v with
  | .slice id off n _ es => if n = 0 then some [] else H.read (.ptr id off) (n * es)
  | .nilSlice => some []
  | _ => none

end Go.Rx
