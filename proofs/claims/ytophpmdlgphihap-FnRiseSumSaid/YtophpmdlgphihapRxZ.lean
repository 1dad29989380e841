/-
  RxZ: what a call leaves of one block that it is given, and what it makes; cells; bytes.
-/
import Derived.Test.YtophpmdlgphihapRxY
namespace Go.Rx
set_option linter.unusedVariables false
set_option linter.unusedSimpArgs false

section
variable {P : Program} {A : Heap} {X X' : List Nat} {E F : List (Nat × AV)} {S S' S0 T : Sig} {Q : Exit → St → Prop} {K : St → Prop} {r : List MI} {d : Nat} {v w : AV} {x y p : MX} {k : IntKind} {a b : Int}

theorem ChOk.up {H H' : Heap} {m : Nat} {c : Ch} (h : ChOk H X' m H' c) (ho : c.k.wr = true → ∀ k, c.v.bid = some k → (A.size ≤ k ∨ k ∈ X)) : ChOk A X m H' c := by
  refine ⟨h.1, ?_⟩
  have h2 := h.2
  cases hk : c.k with
  | ro => rw [hk] at h2; exact h2
  | rw =>
    rw [hk] at h2 ho
    simp only at h2 ⊢
    refine ⟨h2.1, h2.2.imp id ?_⟩
    rintro ⟨i, h3, h4, h5⟩
    exact ⟨i, h3, ho rfl i (by rw [h3]; rfl), h5⟩
  | cell =>
    rw [hk] at h2 ho
    simp only at h2 ⊢
    obtain ⟨i, h3, h4, h5⟩ := h2
    exact ⟨i, h3, ho rfl i (by rw [h3]; rfl), h5⟩

/-- behind a call: one block in the place of another one, and new ones -/
theorem SOk.back {H H' : Heap} {c c' : Ch} (h : SOk A X (c :: S0) H.size H) (hX : ∀ k ∈ X', c.k.wr = true ∧ c.v.bid = some k ∧ c'.v.bid = some k) (h1 : SOk H X' (T ++ [c']) H'.size H')
    (hv : ∀ k, c'.v.bid = some k → c.v.bid = some k) (hk : c'.k.wr = true → c.k.wr = true) (hT : T.all (·.k.wr) = true) : SOk A X (T ++ c' :: S0) H'.size H' := by
  have hT' : ∀ d ∈ T, d.k.wr = true := by simpa using hT
  have hp := List.pairwise_append.1 h1.ap
  have hq := List.pairwise_cons.1 h.ap
  have hnew : ∀ d ∈ T, ∀ k, d.v.bid = some k → H.size ≤ k := by
    intro d hd k hdk
    rcases (h1.ch d (by simp [hd])).own (hT' d hd) hdk with h2 | h2
    · exact h2
    · exact absurd (hX k h2).2.2 (hp.2.2 d hd c' (by simp) (.inl (hT' d hd)) k hdk)
  have ham := h.am
  have hle := h1.le.size
  have hlt : ∀ e ∈ c :: S0, ∀ k, e.v.bid = some k → k < H.size := fun e he k hk => (h.ch e he).1 k hk
  refine ⟨⟨by omega, fun i hi hx => ?_, h1.le.ob.trans h.le.ob⟩, by omega, Nat.le_refl _, ?_, ?_⟩
  · rw [h1.le.get i (by omega) fun hx' => ?_]
    · exact h.le.get i hi hx
    · obtain ⟨g1, g2, _⟩ := hX i hx'
      rcases (h.ch c (by simp)).own g1 g2 with h2 | h2
      · omega
      · exact hx h2
  · intro e he
    rcases List.mem_append.1 he with he | he
    · exact (h1.ch e (by simp [he])).up fun _ k hk => .inl (by have := hnew e he k hk; omega)
    · rcases List.mem_cons.1 he with rfl | he
      · exact (h1.ch e (by simp)).up fun hw k hek => (h.ch c (by simp)).own (hk hw) (hv k hek)
      · refine (h.ch e (by simp [he])).mono (Nat.le_trans (Nat.le_refl _) hle) fun k hek => ?_
        refine h1.le.get k (hlt e (by simp [he]) k hek) fun hx' => ?_
        obtain ⟨g1, g2, _⟩ := hX k hx'
        exact hq.1 e he (.inl g1) k g2 hek
  · rw [List.pairwise_append, List.pairwise_cons]
    refine ⟨hp.1, ⟨fun e he hw k h2 => ?_, hq.2⟩, fun d hd e he => ?_⟩
    · exact hq.1 e he (hw.imp hk id) k (hv k h2)
    · rcases List.mem_cons.1 he with rfl | he
      · exact hp.2.2 d hd e (by simp)
      · intro _ k h2 h3
        have := hnew d hd k h2
        have := hlt e (by simp [he]) k h3
        omega

/-- behind a call that changes nothing: what it has made -/
theorem SOk.join {H H' : Heap} (h : SOk A X S H.size H) (h1 : SOk H [] T H'.size H') (hT : T.all (·.k.wr) = true) : SOk A X (T ++ S) H'.size H' := by
  have hT' : ∀ d ∈ T, d.k.wr = true := by simpa using hT
  have hnew : ∀ d ∈ T, ∀ k, d.v.bid = some k → H.size ≤ k := by
    intro d hd k hdk
    rcases (h1.ch d hd).own (hT' d hd) hdk with h2 | h2
    · exact h2
    · simp at h2
  have ham := h.am
  have hle := h1.le.size
  refine ⟨⟨by omega, fun i hi hx => ?_, h1.le.ob.trans h.le.ob⟩, by omega, Nat.le_refl _, ?_, ?_⟩
  · rw [h1.le.get i (by omega) (by simp)]
    exact h.le.get i hi hx
  · intro e he
    rcases List.mem_append.1 he with he | he
    · exact (h1.ch e he).up fun _ k hk => .inl (by have := hnew e he k hk; omega)
    · exact (h.ch e he).mono hle fun k hek => h1.le.get k ((h.ch e he).1 k hek) (by simp)
  · rw [List.pairwise_append]
    refine ⟨h1.ap, h.ap, fun d hd e he _ k h2 h3 => ?_⟩
    have := hnew d hd k h2
    have := (h.ch e he).1 k h3
    omega

/-- some of the blocks, to be read only -/
inductive SubF : Sig → Sig → Prop
  | nil {S : Sig} : SubF S []
  | cons {S R S' : Sig} {c : Ch} (h : Sel S c R) (h' : SubF R S') : SubF S (c :: S')
  | frz {S R S' : Sig} {v : AV} {es n : Nat} {cs : List AV} (h : Sel S ⟨.rw, v, es, n, cs⟩ R) (h' : SubF R S') : SubF S (⟨.ro, v, es, n, cs⟩ :: S')
theorem SubF.mem {S R : Sig} (h : SubF S R) : ∀ d ∈ R, ∃ e ∈ S, e.v = d.v := by
  induction h with
  | nil => simp
  | cons h h' ih =>
    intro d hd
    rcases List.mem_cons.1 hd with rfl | hd
    · exact ⟨_, h.mem.1, rfl⟩
    · obtain ⟨e, he, hv⟩ := ih d hd
      exact ⟨e, h.mem.2 e he, hv⟩
  | frz h h' ih =>
    intro d hd
    rcases List.mem_cons.1 hd with rfl | hd
    · exact ⟨_, h.mem.1, rfl⟩
    · obtain ⟨e, he, hv⟩ := ih d hd
      exact ⟨e, h.mem.2 e he, hv⟩
theorem SubF.wrm {S R : Sig} (h : SubF S R) : ∀ d ∈ R, d.k.wr = true → d ∈ S := by
  induction h with
  | nil => simp
  | cons h h' ih =>
    intro d hd hw
    rcases List.mem_cons.1 hd with rfl | hd
    · exact h.mem.1
    · exact h.mem.2 d (ih d hd hw)
  | frz h h' ih =>
    intro d hd hw
    rcases List.mem_cons.1 hd with rfl | hd
    · cases hw
    · exact h.mem.2 d (ih d hd hw)
theorem SubF.from {S S0 R : Sig} {c : Ch} (hs : Sel S c S0) (h : SubF S0 R) : SubF S (c :: R) := .cons hs h
theorem SOk.subf {A : Heap} {X : List Nat} {S R : Sig} {m : Nat} {H : Heap} (hs : SubF S R) (h : SOk A X S m H) : SOk A X R m H := by
  induction hs with
  | nil => exact ⟨h.le, h.am, h.mh, by simp, .nil⟩
  | cons hs h' ih =>
    have h1 := h.sel hs
    have h2 := ih h1.tail
    refine ⟨h.le, h.am, h.mh, fun d hd => ?_, ?_⟩
    · rcases List.mem_cons.1 hd with rfl | hd
      · exact h1.ch d (by simp)
      · exact h2.ch d hd
    · rw [List.pairwise_cons]
      refine ⟨fun d hd hw k h3 h4 => ?_, h2.ap⟩
      obtain ⟨e, he, hv⟩ := h'.mem d hd
      rcases hw with hw | hw
      · exact (List.pairwise_cons.1 h1.ap).1 e he (.inl hw) k h3 (by rw [hv]; exact h4)
      · have hse := SubF.wrm h' d hd hw
        exact (List.pairwise_cons.1 h1.ap).1 d hse (.inr hw) k h3 h4
  | frz hs h' ih =>
    have h1 := (h.sel hs).freeze
    have h2 := ih h1.tail
    refine ⟨h.le, h.am, h.mh, fun d hd => ?_, ?_⟩
    · rcases List.mem_cons.1 hd with rfl | hd
      · exact h1.ch _ (by simp)
      · exact h2.ch d hd
    · rw [List.pairwise_cons]
      refine ⟨fun d hd hw k h3 h4 => ?_, h2.ap⟩
      rcases hw with hw | hw
      · cases hw
      · have hse := SubF.wrm h' d hd hw
        exact (List.pairwise_cons.1 h1.ap).1 d hse (.inr hw) k h3 h4

/-- a function that changes one block that it is given -/
theorem HasCode.gowg {f : FuncId} {mc : MC} {rs : List RV} {N : Nat} (h : HasCode P f mc rs N) {args : List AV} {H : Heap} {c : Ch} {R : Sig} {γ : Type} {V : γ → AV} {T : γ → Sig} {C : γ → Ch} {Φ : γ → Prop}
    (hS : SOk A X S H.size H) (hs : Sel S c S0) (hw : c.k.wr = true) (hR : SubF S0 R) (hro : R.all (fun d => !d.k.wr) = true)
    (hv : ∀ g, (C g).v = c.v) (hk : ∀ g, (C g).k = c.k) (hT : ∀ g, (T g).all (·.k.wr) = true) (hn : args.length ≤ N)
    (hb : ∀ X', GC P H X' (argsE 0 args) (c :: R) mc (retK rs fun r H' => ∃ g, r = V g ∧ Φ g ∧ SOk H X' (T g ++ [C g]) H'.size H')) : ACalls P f args H fun r H' => ∃ g, r = V g ∧ SOk A X (T g ++ C g :: S0) H'.size H' ∧ Φ g := by
  have hS' := hS.sel hs
  have hSR := hS'.tail.subf hR
  have hc := hS'.ch c (by simp)
  have hfit : Fit H c.v.bid.toList (argsE 0 args) (c :: R) ⟨init args, H⟩ := by
    refine ⟨fun i v hv => ?_, LeX.refl _ _, Nat.le_refl _, Nat.le_refl _, ?_, ?_⟩
    · have := (argsE_init args 0 i v hv).2
      simpa using this
    · intro d hd
      rcases List.mem_cons.1 hd with rfl | hd
      · refine hc.up fun _ k hk => .inr ?_
        rw [hk]; simp
      · refine (hSR.ch d hd).up fun hwd => ?_
        have := List.all_eq_true.1 hro d hd
        rw [hwd] at this; cases this
    · rw [List.pairwise_cons]
      refine ⟨fun d hd _ k h3 h4 => ?_, hSR.ap⟩
      obtain ⟨e, he, hv⟩ := hR.mem d hd
      exact (List.pairwise_cons.1 hS'.ap).1 e he (.inl hw) k h3 (by rw [hv]; exact h4)
  refine (h.calls hn ((hb c.v.bid.toList).g _ hfit)).mono ?_
  rintro r H' ⟨g, rfl, hg, h1⟩
  refine ⟨g, rfl, ?_, hg⟩
  refine hS'.back ?_ h1 (fun k hk => by rw [← hv g]; exact hk) (fun hk' => by rw [← hk g]; exact hk') (hT g)
  intro k hk'
  have : c.v.bid = some k := by
    cases hb : c.v.bid with
    | none => rw [hb] at hk'; simp at hk'
    | some j => rw [hb] at hk'; simp at hk'; rw [hk']
  exact ⟨hw, this, by rw [hv g]; exact this⟩

/-- a function that only reads what it is given, and makes new blocks -/
theorem HasCode.gon {f : FuncId} {mc : MC} {rs : List RV} {N : Nat} (h : HasCode P f mc rs N) {args : List AV} {H : Heap} {R : Sig} {γ : Type} {V : γ → AV} {T : γ → Sig} {Φ : γ → Prop}
    (hS : SOk A X S H.size H) (hR : RoAll H R) (hT : ∀ g, (T g).all (·.k.wr) = true) (hn : args.length ≤ N)
    (hb : GC P H [] (argsE 0 args) R mc (retK rs fun r H' => ∃ g, r = V g ∧ Φ g ∧ SOk H [] (T g) H'.size H')) : ACalls P f args H fun r H' => ∃ g, r = V g ∧ SOk A X (T g ++ S) H'.size H' ∧ Φ g := by
  refine (h.go R hR hn hb).mono ?_
  rintro r H' ⟨g, rfl, hg, h1⟩
  exact ⟨g, rfl, hS.join h1 (hT g), hg⟩

/- cells -/
theorem stp_ldc {id o es n j : Nat} {ag : Bool} {cs : List AV} (hp : evE E p = some (.ptr id o) := by exact rfl) (hs : Sel S ⟨.cell, .ptr id 0, es, n, cs⟩ S0 := by first | exact Sel.head | exact Sel.tail Sel.head | exact Sel.tail (Sel.tail Sel.head) | exact Sel.tail (Sel.tail (Sel.tail Sel.head)) | exact Sel.tail (Sel.tail (Sel.tail (Sel.tail Sel.head))) | exact Sel.tail (Sel.tail (Sel.tail (Sel.tail (Sel.tail Sel.head)))) | exact Sel.tail (Sel.tail (Sel.tail (Sel.tail (Sel.tail (Sel.tail Sel.head))))) | exact Sel.tail (Sel.tail (Sel.tail (Sel.tail (Sel.tail (Sel.tail (Sel.tail Sel.head)))))))
    (hl : Nat.ble (o + j) cs.length = true := by exact rfl) (hv : packC ag ((cs.drop o).take j) = some v := by exact rfl) : Stp A X E S (.ld p j ag) (Is v S) :=
  stp_pure fun τ H m nid hE hS => by
    have hc := (hS.sel hs).ch ⟨.cell, .ptr id 0, es, n, cs⟩ (by simp)
    obtain ⟨_, id', h1, _, h2⟩ := hc
    simp only [AV.ptr.injEq, and_true] at h1; subst h1
    simp only at h2
    simp only [mstep, ev_of hE hp, Heap.read, h2]
    rw [if_pos (Nat.le_of_ble_eq_true hl)]
    simp only [hv, Option.map_some]

theorem stp_ldc1 {id o es n : Nat} {cs : List AV} (hp : evE E p = some (.ptr id o) := by exact rfl) (hs : Sel S ⟨.cell, .ptr id 0, es, n, cs⟩ S0 := by first | exact Sel.head | exact Sel.tail Sel.head | exact Sel.tail (Sel.tail Sel.head) | exact Sel.tail (Sel.tail (Sel.tail Sel.head)) | exact Sel.tail (Sel.tail (Sel.tail (Sel.tail Sel.head))) | exact Sel.tail (Sel.tail (Sel.tail (Sel.tail (Sel.tail Sel.head)))) | exact Sel.tail (Sel.tail (Sel.tail (Sel.tail (Sel.tail (Sel.tail Sel.head))))) | exact Sel.tail (Sel.tail (Sel.tail (Sel.tail (Sel.tail (Sel.tail (Sel.tail Sel.head)))))))
    (hv : cs[o]? = some v := by exact rfl) : Stp A X E S (.ld p 1 false) (Is v S) := by
  have hlt := (List.getElem?_eq_some_iff.1 hv).1
  refine stp_ldc (j := 1) hp hs (Nat.ble_eq_true_of_le (by omega)) ?_
  rw [List.drop_eq_getElem_cons hlt]
  have := (List.getElem?_eq_some_iff.1 hv).2
  simp [packC, this]

theorem stp_stc {id o es n j : Nat} {cs : List AV} (hp : evE E p = some (.ptr id o)) (hx : evE E x = some w) (hs : Sel S ⟨.cell, .ptr id 0, es, n, cs⟩ S0)
    (hw : w.cells.length = j) (hone : w.cells.all AV.one = true) (hl : o + j ≤ cs.length) : Stp A X E S (.st p x j) (Is .any (⟨.cell, .ptr id 0, es, n, cs.take o ++ w.cells ++ cs.drop (o + j)⟩ :: S0)) := by
  refine ⟨?_⟩
  intro τ H m nid hE hS hm
  have hS' := hS.sel hs
  have hc := hS'.ch ⟨.cell, .ptr id 0, es, n, cs⟩ (by simp)
  obtain ⟨h0, id', h1, h3, h2⟩ := hc
  simp only [AV.ptr.injEq, and_true] at h1; subst h1
  simp only at h2 h0
  refine ⟨.any, _, H.put id (some ⟨true, cs.take o ++ w.cells ++ cs.drop (o + j)⟩), m, ⟨rfl, rfl⟩, ?_, ?_, Nat.le_refl _, by omega, Nat.le_refl _⟩
  · simp only [mstep, ev_of hE hp, ev_of hE hx, hw, if_true, Heap.write, h2]
    rw [if_pos (by exact ⟨trivial, hl, hone⟩)]
    rfl
  · refine hS'.mod rfl ?_ (Nat.le_refl _) hS.mh ?_ (.inl rfl)
    · intro id' _ hne
      rw [Heap.get_put, if_neg]
      intro e; subst e; exact hne rfl
    · exact ⟨h0, id, rfl, h3, by simp [Heap.get_put]⟩
/-- a number is put into the second of two cells -/
theorem stp_st21 {id es n : Nat} {c1 c2 : AV} (hp : evE E p = some (.ptr id 1) := by exact rfl) (hx : evE E x = some (.int k a) := by exact rfl) (hs : Sel S ⟨.cell, .ptr id 0, es, n, [c1, c2]⟩ S0 := by first | exact Sel.head | exact Sel.tail Sel.head | exact Sel.tail (Sel.tail Sel.head) | exact Sel.tail (Sel.tail (Sel.tail Sel.head)) | exact Sel.tail (Sel.tail (Sel.tail (Sel.tail Sel.head))) | exact Sel.tail (Sel.tail (Sel.tail (Sel.tail (Sel.tail Sel.head)))) | exact Sel.tail (Sel.tail (Sel.tail (Sel.tail (Sel.tail (Sel.tail Sel.head))))) | exact Sel.tail (Sel.tail (Sel.tail (Sel.tail (Sel.tail (Sel.tail (Sel.tail Sel.head))))))) :
    Stp A X E S (.st p x 1) (Is .any (⟨.cell, .ptr id 0, es, n, [c1, .int k a]⟩ :: S0)) :=
  stp_stc hp hx hs rfl rfl (by simp)

/- bytes -/
def bytesL (bs : List Int) : List AV := bs.map (.int .u8)
theorem stp_ldb {n i : Nat} {bs : List Int} (hp : evE E p = some (v.elem i) := by exact rfl) (hh : Has S v 1 n (bytesL bs) := by first | exact Has.ro | exact Has.tail Has.ro | exact Has.tail (Has.tail Has.ro) | exact Has.tail (Has.tail (Has.tail Has.ro))) (hi : i < n := by omega) : Stp A X E S (.ld p 1 false) (Is (.int .u8 (nth bs i)) S) :=
  stp_pure fun τ H m nid hE hS => by
    have hv := hS.valsA hh
    have hn : bs.length = n := by have := hv.cells; simpa [bytesL] using this
    simp only [mstep, ev_of hE hp, hv.elem hi]
    have e : ((bytesL bs).drop (i * 1)).take 1 = [.int .u8 (nth bs i)] := by
      simp only [bytesL, Nat.mul_one]
      rw [List.drop_eq_getElem_cons (by simp; omega)]
      have hi' : i < bs.length := by omega
      simp [nth, List.getD, hi']
    rw [e]; rfl
theorem stp_convb {c : Int} (hx : evE E x = some (.int .u8 c) := by exact rfl) (hc : 0 ≤ c ∧ c ≤ 255 := by omega) : Stp A X E S (.conv .i64 x) (Is (.int .i64 c) S) := by
  have := stp_conv (A := A) (X := X) (S := S) (k' := .i64) hx
  rwa [wrap64_id (by omega) (by omega)] at this
theorem xor_le {m n : Nat} (h : m < 9223372036854775808) (k : n < 9223372036854775808) : m ^^^ n < 9223372036854775808 := Nat.xor_lt_two_pow (n := 63) h k
theorem stp_xor (hx : evE E x = some (.int .i64 a) := by exact rfl) (hy : evE E y = some (.int .i64 b) := by exact rfl) (ha : 0 ≤ a ∧ a ≤ 9223372036854775807 := by omega) (hb : 0 ≤ b ∧ b ≤ 9223372036854775807 := by omega) :
    Stp A X E S (.bin .xor x y) (Is (.int .i64 ((a.toNat ^^^ b.toNat : Nat) : Int)) S) :=
  stp_bin hx hy (by
    have h1 : (BitVec.ofInt 64 a).toNat = a.toNat := by simp [BitVec.toNat_ofInt]; omega
    have h2 : (BitVec.ofInt 64 b).toNat = b.toNat := by simp [BitVec.toNat_ofInt]; omega
    have h3 := xor_le (m := a.toNat) (n := b.toNat) (by omega) (by omega)
    have h4 : (BitVec.ofInt 64 a ^^^ BitVec.ofInt 64 b).toNat = a.toNat ^^^ b.toNat := by rw [BitVec.toNat_xor, h1, h2]
    have h5 : IntKind.wrap .i64 ((BitVec.ofInt 64 a ^^^ BitVec.ofInt 64 b).toNat : Int) = ((a.toNat ^^^ b.toNat : Nat) : Int) := by
      rw [h4, wrap64_id (by omega) (by omega)]
    simp only [mbin, shifts, Bool.false_eq_true, if_false, if_true]
    exact congrArg (fun z => some (AV.int .i64 z)) h5)

/-- values put together -/
def evP (E : List (Nat × AV)) : List (Nat × Nat × MX) → Option (List (Nat × Nat × AV))
  | [] => some []
  | q :: r => match evE E q.2.2, evP E r with
    | some a, some l => some ((q.1, q.2.1, a) :: l)
    | _, _ => none
theorem evP_of {τ : Nat → AV} (hE : EnvOk E τ) : ∀ {parts : List (Nat × Nat × MX)} {l : List (Nat × Nat × AV)}, evP E parts = some l → (parts.map fun q => (q.1, q.2.1, q.2.2.ev τ)) = l
  | [], l, h => by simpa [evP] using h
  | q :: r, l, h => by
    simp only [evP] at h
    split at h
    · rename_i a l' ha hl
      simp only [Option.some.injEq] at h; subst h
      rw [List.map_cons, ev_of hE ha, evP_of hE hl]
    · cases h
theorem stp_bld {z cs : List AV} {parts : List (Nat × Nat × MX)} {l : List (Nat × Nat × AV)} (hp : evP E parts = some l := by exact rfl) (hf : fillL z l = some cs := by exact rfl) : Stp A X E S (.bld z parts) (Is (.agg cs) S) :=
  stp_pure fun τ H m nid hE hS => by simp only [mstep, evP_of hE hp, hf, Option.map_some]

/-- a new cell -/
theorem stp_new {z : List AV} : Stp A X E S (.new z) (NewP fun id => ⟨.cell, .ptr id 0, z.length, 1, z⟩ :: S) := by
  refine ⟨?_⟩
  intro τ H m nid hE hS hm
  have hs := Heap.lt_new H nid (some ⟨true, z⟩)
  refine ⟨.ptr nid 0, _, H.new nid (some ⟨true, z⟩), nid + 1, ⟨nid, rfl, rfl⟩, rfl, ?_, by omega, Nat.le_refl _, Heap.size_le_new _ _ _⟩
  refine hS.add ?_ (by omega) hs ⟨?_, nid, rfl, .inl (by have := hS.am; omega), by simp [Heap.get_new]⟩ ?_
  · intro id hid; rw [Heap.get_new, if_neg (by omega)]
  · intro k hk; simp only [AV.bid, Option.some.injEq] at hk; omega
  · intro k hk; simp only [AV.bid, Option.some.injEq] at hk; omega
theorem stp_box {cs : List AV} (hx : evE E x = some v) (hc : v.cells = cs) (ho : cs.all AV.one = true) : Stp A X E S (.box x) (NewP fun id => ⟨.cell, .ptr id 0, cs.length, 1, cs⟩ :: S) := by
  refine ⟨?_⟩
  intro τ H m nid hE hS hm
  have hs := Heap.lt_new H nid (some ⟨true, cs⟩)
  refine ⟨.ptr nid 0, _, H.new nid (some ⟨true, cs⟩), nid + 1, ⟨nid, rfl, rfl⟩, ?_, ?_, by omega, Nat.le_refl _, Heap.size_le_new _ _ _⟩
  · simp only [mstep, ev_of hE hx, hc]
    rw [if_pos ho]
  refine hS.add ?_ (by omega) hs ⟨?_, nid, rfl, .inl (by have := hS.am; omega), by simp [Heap.get_new]⟩ ?_
  · intro id hid; rw [Heap.get_new, if_neg (by omega)]
  · intro k hk; simp only [AV.bid, Option.some.injEq] at hk; omega
  · intro k hk; simp only [AV.bid, Option.some.injEq] at hk; omega
theorem go_newp {op : MOp} {N : Nat → Sig} (hp : op.isCall = false) (hs : Stp A X E S op (NewP N)) (hk : ∀ id, GO P A X ((d, .ptr id 0) :: E) (N id) r K) : GO P A X E S (⟨some d, none, op⟩ :: r) K :=
  go_step hs hp fun a b h => by obtain ⟨id, rfl, rfl⟩ := h; exact hk id
end

theorem slice_cells {v : AV} (h : v.isSlice = true) : v.cells = [v] ∧ v.one = true := by
  cases v <;> simp [AV.isSlice] at h <;> simp [AV.cells, AV.one]
/-- behind a call that changes nothing, and of which only what it yields is kept -/
theorem SOk.over {A : Heap} {X : List Nat} {S T : Sig} {H H' : Heap} (h : SOk A X S H.size H) (h1 : SOk H [] T H'.size H') : SOk A X T H'.size H' := by
  have ham := h.am
  have hle := h1.le.size
  refine ⟨⟨by omega, fun i hi hx => ?_, h1.le.ob.trans h.le.ob⟩, by omega, Nat.le_refl _, fun d hd => ?_, h1.ap⟩
  · rw [h1.le.get i (by omega) (by simp)]
    exact h.le.get i hi hx
  · refine (h1.ch d hd).up fun hw k hk => .inl ?_
    rcases (h1.ch d hd).own hw hk with h2 | h2
    · omega
    · simp at h2
/-- what the blocks tell of values -/
theorem go_know {P : Program} {A : Heap} {X : List Nat} {E : List (Nat × AV)} {S : Sig} {l : List MI} {K : St → Prop} {p : Prop} (h : ∀ m H, SOk A X S m H → p) (hk : p → GO P A X E S l K) : GO P A X E S l K := ⟨fun s hf => (hk (h _ _ hf.ok)).g s hf⟩
section
variable {P : Program} {A : Heap} {X : List Nat} {E : List (Nat × AV)} {S S0 : Sig} {v w : AV} {x y p : MX}
/- numbers without a sign -/
theorem wrapu_id {n : Int} (h1 : 0 ≤ n) (h2 : n ≤ 18446744073709551615) : IntKind.wrap .u64 n = n := by
  simp only [IntKind.wrap, IntKind.signed, IntKind.bits]
  simp
  omega
theorem stp_shr {n i : Nat} {k : IntKind} (hx : evE E x = some (.int .u64 (n : Int)) := by exact rfl) (hy : evE E y = some (.int k (i : Int)) := by exact rfl) (hi : i ≤ 63 := by omega) : Stp A X E S (.bin .shr x y) (Is (.int .u64 ((n / 2 ^ i : Nat) : Int)) S) :=
  stp_bin hx hy (by
    have h0 : ¬ ((i : Int) < 0) := by omega
    have h1 : min (i : Int).toNat (IntKind.bits .u64) = i := by simp [IntKind.bits]; omega
    have e : ((2 : Int) ^ i) = ((2 ^ i : Nat) : Int) := by simp
    have e2 : (n : Int).fdiv (2 ^ i) = ((n / 2 ^ i : Nat) : Int) := by
      rw [e, Int.fdiv_eq_ediv_of_nonneg _ (Int.natCast_nonneg _)]; simp
    simp only [mbin, shifts, if_true, mshift, if_neg h0, h1, e2])
theorem stp_shl1 {i : Nat} {k : IntKind} (hx : evE E x = some (.int .u64 1) := by exact rfl) (hy : evE E y = some (.int k (i : Int)) := by exact rfl) (hi : i ≤ 63 := by omega) : Stp A X E S (.bin .shl x y) (Is (.int .u64 ((2 ^ i : Nat) : Int)) S) :=
  stp_bin hx hy (by
    have h0 : ¬ ((i : Int) < 0) := by omega
    have h1 : min (i : Int).toNat (IntKind.bits .u64) = i := by simp [IntKind.bits]; omega
    have h2 : 2 ^ i ≤ 2 ^ 63 := Nat.pow_le_pow_right (by omega) hi
    simp only [mbin, shifts, if_true, mshift, if_neg h0, h1, Int.one_mul]
    have e : ((2 : Int) ^ i) = ((2 ^ i : Nat) : Int) := by simp
    have h3 : ((2 ^ i : Nat) : Int) ≤ 18446744073709551615 := by
      have : (2 : Nat) ^ 63 ≤ 18446744073709551615 := by decide
      exact Int.ofNat_le.2 (Nat.le_trans h2 this)
    rw [e, wrapu_id (Int.natCast_nonneg _) h3])
theorem stp_and1 {n : Nat} (hx : evE E x = some (.int .u64 (n : Int)) := by exact rfl) (hy : evE E y = some (.int .u64 1) := by exact rfl) : Stp A X E S (.bin .and x y) (Is (.int .u64 ((n % 2 : Nat) : Int)) S) :=
  stp_bin hx hy (by
    have h4 : (BitVec.ofInt 64 (n : Int) &&& BitVec.ofInt 64 1).toNat = n % 2 := by
      rw [BitVec.toNat_and]
      have e1 : (BitVec.ofInt 64 1).toNat = 1 := by decide
      rw [e1, Nat.and_one_is_mod]
      have e2 : (BitVec.ofInt 64 (n : Int)).toNat = n % 2 ^ 64 := by simp
      rw [e2]; omega
    have h5 : IntKind.wrap .u64 ((BitVec.ofInt 64 (n : Int) &&& BitVec.ofInt 64 1).toNat : Int) = ((n % 2 : Nat) : Int) := by
      rw [h4, wrapu_id (by omega) (by omega)]
    simp only [mbin, shifts, Bool.false_eq_true, if_false, if_true]
    exact congrArg (fun z => some (AV.int .u64 z)) h5)
theorem stp_addu1 {n : Nat} (hx : evE E x = some (.int .u64 (n : Int)) := by exact rfl) (hy : evE E y = some (.int .u64 1) := by exact rfl) (hw : n ≤ 18446744073709551614 := by omega) : Stp A X E S (.bin .add x y) (Is (.int .u64 ((n + 1 : Nat) : Int)) S) :=
  stp_bin hx hy (by simp only [mbin, shifts, Bool.false_eq_true, if_false, if_true]; rw [wrapu_id (by omega) (by omega)]; simp)
theorem stp_subu1 {n : Nat} (hx : evE E x = some (.int .u64 (n : Int)) := by exact rfl) (hy : evE E y = some (.int .u64 1) := by exact rfl) (hw : 1 ≤ n ∧ n ≤ 18446744073709551615 := by omega) : Stp A X E S (.bin .sub x y) (Is (.int .u64 ((n - 1 : Nat) : Int)) S) :=
  stp_bin hx hy (by
    have e : (n : Int) - 1 = ((n - 1 : Nat) : Int) := by omega
    simp only [mbin, shifts, Bool.false_eq_true, if_false, if_true]; rw [e, wrapu_id (by omega) (by omega)])
theorem stp_oru {m n : Nat} (hx : evE E x = some (.int .u64 (m : Int)) := by exact rfl) (hy : evE E y = some (.int .u64 (n : Int)) := by exact rfl) (hm : m ≤ 18446744073709551615 := by omega) (hn : n ≤ 18446744073709551615 := by omega) : Stp A X E S (.bin .or x y) (Is (.int .u64 ((m ||| n : Nat) : Int)) S) :=
  stp_bin hx hy (by
    have h1 : (BitVec.ofInt 64 (m : Int)).toNat = m := by simp [BitVec.toNat_ofInt]; omega
    have h2 : (BitVec.ofInt 64 (n : Int)).toNat = n := by simp [BitVec.toNat_ofInt]; omega
    have h4 : (BitVec.ofInt 64 (m : Int) ||| BitVec.ofInt 64 (n : Int)).toNat = m ||| n := by rw [BitVec.toNat_or, h1, h2]
    have h3 : m ||| n < 2 ^ 64 := Nat.or_lt_two_pow (by omega) (by omega)
    have h5 : IntKind.wrap .u64 ((BitVec.ofInt 64 (m : Int) ||| BitVec.ofInt 64 (n : Int)).toNat : Int) = ((m ||| n : Nat) : Int) := by
      rw [h4, wrapu_id (by omega) (by omega)]
    simp only [mbin, shifts, Bool.false_eq_true, if_false, if_true]
    exact congrArg (fun z => some (AV.int .u64 z)) h5)
theorem stp_andnu {m n : Nat} (hx : evE E x = some (.int .u64 (m : Int)) := by exact rfl) (hy : evE E y = some (.int .u64 (n : Int)) := by exact rfl) (hm : m ≤ 18446744073709551615 := by omega) (hn : n ≤ 18446744073709551615 := by omega) : Stp A X E S (.bin .andNot x y) (Is (.int .u64 ((m &&& (18446744073709551615 - n) : Nat) : Int)) S) :=
  stp_bin hx hy (by
    have h1 : (BitVec.ofInt 64 (m : Int)).toNat = m := by simp [BitVec.toNat_ofInt]; omega
    have h2 : (BitVec.ofInt 64 (n : Int)).toNat = n := by simp [BitVec.toNat_ofInt]; omega
    have h4 : (BitVec.ofInt 64 (m : Int) &&& ~~~(BitVec.ofInt 64 (n : Int))).toNat = m &&& (18446744073709551615 - n) := by
      rw [BitVec.toNat_and, BitVec.toNat_not, h1, h2]
    have h3 : m &&& (18446744073709551615 - n) ≤ m := Nat.and_le_left
    have h5 : IntKind.wrap .u64 ((BitVec.ofInt 64 (m : Int) &&& ~~~(BitVec.ofInt 64 (n : Int))).toNat : Int) = ((m &&& (18446744073709551615 - n) : Nat) : Int) := by
      rw [h4, wrapu_id (by omega) (by omega)]
    simp only [mbin, shifts, Bool.false_eq_true, if_false, if_true]
    exact congrArg (fun z => some (AV.int .u64 z)) h5)
theorem stp_notu {n : Nat} (hx : evE E x = some (.int .u64 (n : Int)) := by exact rfl) (hn : n ≤ 18446744073709551615 := by omega) : Stp A X E S (.un .xor x) (Is (.int .u64 ((18446744073709551615 - n : Nat) : Int)) S) :=
  stp_pure fun τ H m nid hE hS => by
    have h1 : (BitVec.ofInt 64 (n : Int)) = BitVec.ofNat 64 n := by
      apply BitVec.eq_of_toNat_eq; simp
    have h0 : (if IntKind.signed .u64 = true then (-1 : Int) else IntKind.max .u64) = 18446744073709551615 := by decide
    have h2 : (BitVec.ofInt 64 18446744073709551615) = BitVec.allOnes 64 := by decide
    have h4 : (BitVec.ofInt 64 18446744073709551615 ^^^ BitVec.ofInt 64 (n : Int)).toNat = 18446744073709551615 - n := by
      rw [h2, h1, BitVec.allOnes_xor, BitVec.toNat_not]
      simp; omega
    have h5 : IntKind.wrap .u64 ((BitVec.ofInt 64 18446744073709551615 ^^^ BitVec.ofInt 64 (n : Int)).toNat : Int) = ((18446744073709551615 - n : Nat) : Int) := by
      rw [h4, wrapu_id (by omega) (by omega)]
    simp only [mstep, ev_of hE hx, mun, h0, Option.map_some]
    exact congrArg (fun z => some (AV.int .u64 z, H)) h5
end
theorem stp_ixa0 {A : Heap} {X : List Nat} {E : List (Nat × AV)} {S : Sig} {v : AV} {x y : MX} {k : IntKind} {es n : Nat} {cs : List AV} (hx : evE E x = some v := by exact rfl) (hy : evE E y = some (.int k 0) := by exact rfl) (hh : Has S v es n cs := by first | exact Has.ro | exact Has.rw | exact Has.tail Has.ro | exact Has.tail Has.rw | exact Has.tail (Has.tail Has.ro) | exact Has.tail (Has.tail Has.rw) | exact Has.tail (Has.tail (Has.tail Has.ro)) | exact Has.tail (Has.tail (Has.tail Has.rw)) | exact Has.tail (Has.tail (Has.tail (Has.tail Has.ro))) | exact Has.tail (Has.tail (Has.tail (Has.tail Has.rw)))) (hi : 0 < n := by omega) : Stp A X E S (.ixa x y es) (Is (v.elem 0) S) :=
  stp_ixaz hx hy hh (by omega)
/-- no slice at all, as one of one's own -/
theorem SOk.nil {A : Heap} {X : List Nat} {S : Sig} {m : Nat} {H : Heap} (h : SOk A X S m H) (es : Nat) : SOk A X (⟨.rw, .nilSlice, es, 0, []⟩ :: S) m H :=
  ⟨h.le, h.am, h.mh, fun d hd => by
    rcases List.mem_cons.1 hd with rfl | hd
    · exact ⟨fun k hk => by simp [AV.bid] at hk, by simp, .inl ⟨rfl, rfl⟩⟩
    · exact h.ch d hd, by
    rw [List.pairwise_cons]
    exact ⟨fun d _ _ k hk => by simp [AV.bid] at hk, h.ap⟩⟩
theorem gc_nil {P : Program} {A : Heap} {X : List Nat} {E : List (Nat × AV)} {S : Sig} {c : MC} {Q : Exit → St → Prop} (h : GC P A X E (.rwI .nilSlice 0 [] :: S) c Q) : GC P A X E S c Q :=
  ⟨fun s hf => h.g s ⟨hf.env, hf.ok.nil 1⟩⟩
theorem go_nil' {P : Program} {A : Heap} {X : List Nat} {E : List (Nat × AV)} {S : Sig} {l : List MI} {K : St → Prop} (h : GO P A X E (.rwI .nilSlice 0 [] :: S) l K) : GO P A X E S l K :=
  ⟨fun s hf => h.g s ⟨hf.env, hf.ok.nil 1⟩⟩
theorem gk_nil {P : Program} {A : Heap} {X : List Nat} {E : List (Nat × AV)} {S : Sig} {K : St → Prop} (h : GK A X E (.rwI .nilSlice 0 [] :: S) K) : GK A X E S K :=
  ⟨fun s hf => h.g s ⟨hf.env, hf.ok.nil 1⟩⟩

/-- is a slice none at all? -/
theorem go_nileq {P : Program} {A : Heap} {X : List Nat} {E : List (Nat × AV)} {S : Sig} {K : St → Prop} {r : List MI} {d es n : Nat} {v : AV} {x : MX} {cs : List AV} (hx : evE E x = some v) (hh : Has S v es n cs) (hk : ∀ b, (b = true → n = 0) → GO P A X ((d, .bool b) :: E) S r K) : GO P A X E S (⟨some d, none, .nileq false x (.c .nilSlice)⟩ :: r) K := by
  refine ⟨fun s hf => ?_⟩
  have hv := hf.ok.valsA hh
  have h1 := hv.sl
  have h2 := hv.len
  rw [mops_cons]
  cases v <;> simp only [AV.isSlice, Bool.false_eq_true] at h1
  · refine mexec_plain' (P := P) (op := .nileq false x (.c .nilSlice)) (v := .bool false) (H' := s.H) (dst := some d) rfl ?_ ((hk false (by simp)).g (St.put ⟨s.τ, s.H⟩ (some d) (.bool false)) ⟨look_cons hf.env d (.bool false), hf.ok⟩)
    simp only [mstep, ev_of hf.env hx]; rfl
  · refine mexec_plain' (P := P) (op := .nileq false x (.c .nilSlice)) (v := .bool true) (H' := s.H) (dst := some d) rfl ?_ ((hk true (fun _ => by simp only [AV.len] at h2; omega)).g (St.put ⟨s.τ, s.H⟩ (some d) (.bool true)) ⟨look_cons hf.env d (.bool true), hf.ok⟩)
    simp only [mstep, ev_of hf.env hx]; rfl
/-- a byte of a text -/
theorem go_chr {P : Program} {A : Heap} {X : List Nat} {E : List (Nat × AV)} {S : Sig} {K : St → Prop} {r : List MI} {d i : Nat} {k : IntKind} {x y : MX} {t : List UInt8} (hx : evE E x = some (.str t)) (hy : evE E y = some (.int k (i : Int))) (hi : i < t.length) (hk : ∀ b : Nat, b ≤ 255 → GO P A X ((d, .int .u8 (b : Int)) :: E) S r K) : GO P A X E S (⟨some d, none, .chr x y⟩ :: r) K := by
  refine ⟨fun s hf => ?_⟩
  rw [mops_cons]
  refine mexec_plain' (P := P) (op := .chr x y) (v := .int .u8 ((t[i].toNat : Nat) : Int)) (H' := s.H) (dst := some d) rfl ?_ ((hk t[i].toNat (by have := t[i].toNat_lt; omega)).g (St.put ⟨s.τ, s.H⟩ (some d) (.int .u8 ((t[i].toNat : Nat) : Int))) ⟨look_cons hf.env d _, hf.ok⟩)
  simp only [mstep, ev_of hf.env hx, ev_of hf.env hy]
  rw [if_pos (by omega)]
  simp [hi]

theorem stp_subn1 {A : Heap} {X : List Nat} {E : List (Nat × AV)} {S : Sig} {x y : MX} {n : Nat} (hx : evE E x = some (.int .i64 ((n + 1 : Nat) : Int)) := by exact rfl) (hy : evE E y = some (.int .i64 1) := by exact rfl) (hw : n ≤ 9223372036854775806 := by omega) : Stp A X E S (.bin .sub x y) (Is (.int .i64 (n : Int)) S) :=
  stp_bin hx hy (by
    have e : ((n + 1 : Nat) : Int) - 1 = (n : Int) := by omega
    simp only [mbin, shifts, Bool.false_eq_true, if_false, if_true]; rw [e, wrap64_id (by omega) (by omega)])
end Go.Rx
