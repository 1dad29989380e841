/-
  RxQ: from a law's contract in abstract memory to the given row.
-/
import Derived.Test.YtophpmdlgphihapRxO
import Derived.ProofKit
namespace Go.Rx
open Go.ChangeShapes Go.WideShapes Go.ChangeAt Go.RowKit Go.Joins Go.Deep
set_option linter.unusedVariables false

/-- the arguments' memory, taken up: to be read only -/
structure Start (W : World) (ι : Nat → Option Ref) (H : Heap) : Prop where
  rel : HRel ι H W
  ob : H.ob = fun _ => none
  ro : ∀ id b, H.get id = some b → b.rw = false

def ι64 : Nat → Option Ref := fun g => if g < 64 then some ⟨g, 0, 0⟩ else none
theorem Start.nil (W : World) : Start W ι64 ⟨64, fun _ => none, fun _ => none⟩ :=
  ⟨⟨fun i hi => if_neg (by show ¬ i < 64; have : (64 : Nat) ≤ i := hi; omega), fun _ _ h => (by cases h), fun _ _ _ _ _ _ h => (by cases h), fun _ _ h => (by cases h), fun _ _ _ _ _ _ h => (by cases h), fun g hg => ⟨⟨g, 0, 0⟩, if_pos hg, rfl, rfl⟩⟩, rfl, fun _ _ h => (by cases h)⟩

theorem Start.add {W : World} {ι : Nat → Option Ref} {H : Heap} (h : Start W ι H) (cs : List AV) (r : Ref)
    (hc : ∀ i a, cs[i]? = some a → ∃ v, W.cell? ⟨r.row, r.off + i, none⟩ = some v ∧ VRel ι a v) :
    Start W (Ref.with ι H.size r) (H.new H.size (some ⟨false, cs⟩)) ∧ Ref.le ι (Ref.with ι H.size r) ∧ Le H (H.new H.size (some ⟨false, cs⟩)) := by
  have hle : Ref.le ι (Ref.with ι H.size r) := Ref.le_with r (h.rel.fresh _ (Nat.le_refl _))
  have hro : ∀ id b, (H.new H.size (some ⟨false, cs⟩)).get id = some b → b.rw = false := by
    intro id b hb
    rw [Heap.get_new] at hb
    split at hb
    · simp only [Option.some.injEq] at hb; subst hb; rfl
    · exact h.ro id b hb
  refine ⟨⟨⟨?_, ?_, ?_, fun id o ho => (by rw [show (H.new H.size (some ⟨false, cs⟩)).ob = H.ob from rfl, h.ob] at ho; cases ho), fun id o _ _ _ _ ho => (by rw [show (H.new H.size (some ⟨false, cs⟩)).ob = H.ob from rfl, h.ob] at ho; cases ho), h.rel.gl.le hle⟩, h.ob, hro⟩, hle, ?_⟩
  · intro id hid
    have h1 := Heap.lt_new H H.size (some ⟨false, cs⟩)
    have h2 := Heap.size_le_new H H.size (some ⟨false, cs⟩)
    unfold Ref.with
    rw [if_neg (by omega)]
    exact h.rel.fresh id (by omega)
  · intro id b hb
    rw [Heap.get_new] at hb
    split at hb
    · rename_i he
      simp only [Option.some.injEq] at hb
      subst hb
      refine ⟨r, by simp [Ref.with, he], ?_⟩
      unfold BlkRel
      intro i a ha
      obtain ⟨v, h1, h2⟩ := hc i a ha
      exact ⟨v, h1, VRel.mono hle _ _ h2⟩
    · obtain ⟨r', h1, h2⟩ := h.rel.blk id b hb
      exact ⟨r', hle _ _ h1, h2.mono hle⟩
  · intro id b r1 id' b' r1' h1 h2 h3
    rw [hro id b h1] at h3
    cases h3
  · exact (Le.refl H).new (Nat.le_refl _) _

section
variable {T : Type} {enc : TypeId × Value → T} {P : Program} {W : World}

/-- an argument that is a slice of whole numbers -/
theorem Start.ints {ι : Nat → Option Ref} {H : Heap} (hS : Start W ι H) {t e : TypeId} {k : IntKind} {v : Value} {d : DataW T} {ps : List MemPlace} {b0 : Nat}
    (ht : P.underlying t = some (.slice e)) (he : P.underlying e = some (.int k)) (hc : P.cellsOf e = 1)
    (hv : Value.okWide P W .any b0 t v) (h : DataW.Trod enc P W 0 (fun _ => true) true t v d ps) :
    ∃ (ι' : Nat → Option Ref) (H' : Heap) (av : AV) (xs : List Int), Start W ι' H' ∧ Ref.le ι ι' ∧ Le H H' ∧ VRel ι' av v ∧ Vals H' av 1 xs.length (xs.map (.int k)) ∧ (∀ x ∈ xs, (Lit.int k x).wf = true) ∧ xs.length ≤ maxLen := by
  obtain ⟨a, len, cap, rfl⟩ := okWide_slice ht hv
  obtain ⟨fuel, hf⟩ := h
  rcases open_ints ht he hc hf with ⟨h1, _⟩ | ⟨a', len', cap', zs, h1, _, hl, hm, hz, _, hcell, hw⟩
  · simp only [Value.cells, List.cons.injEq, Value.slice.injEq, and_true] at h1
    obtain ⟨rfl, rfl, rfl⟩ := h1
    refine ⟨ι, H, .nilSlice, [], hS, Ref.le_refl _, Le.refl _, by simp [VRel], ⟨rfl, rfl, by simp, by simp, rfl, by simp [AV.bid]⟩, by simp, by simp⟩
  · simp only [Value.cells, List.cons.injEq, Value.slice.injEq, and_true] at h1
    obtain ⟨rfl, rfl, rfl⟩ := h1
    simp only [if_true] at hz
    have hspot : 0 < zs.length → a'.spot = none := by
      intro hpos
      have hcl := hcell 0 hpos
      unfold World.cell? at hcl
      split at hcl
      · split at hcl
        · cases hcl
        · rename_i hn; simpa [Addr.add] using hn
      · cases hcl
    have hx : (zs.take len).length = len := by rw [List.length_take]; omega
    obtain ⟨s1, s2, s3⟩ := hS.add ((zs.take len).map (.int k)) ⟨a'.block, a'.off, cap⟩ (by
      intro i x hx'
      have hi : i < ((zs.take len).map (AV.int k)).length := (List.getElem?_eq_some_iff.1 hx').1
      rw [List.length_map, hx] at hi
      have hi' : i < zs.length := by omega
      have hcl := hcell i hi'
      have hadd : a'.add i = ⟨a'.block, a'.off + i, none⟩ := by
        have h0 := hspot (by omega)
        cases a' with
        | mk b o s => simp only at h0; subst h0; exact add_plain b o i
      rw [List.getElem?_map, List.getElem?_take_of_lt hi, List.getElem?_eq_getElem hi'] at hx'
      simp only [Option.map_some, Option.some.injEq] at hx'
      subst hx'
      refine ⟨_, by rw [← hadd]; exact hcl, ?_⟩
      simp [VRel, List.getD, hi'])
    have hw' : ∀ x ∈ zs.take len, (Lit.int k x).wf = true := fun x hx => hw x (List.mem_of_mem_take hx)
    refine ⟨_, _, .slice H.size 0 len (some cap) 1, zs.take len, s1, s2, s3, ?_, ?_, hw', by omega⟩
    · simp only [VRel]
      refine ⟨⟨a'.block, a'.off, cap⟩, a', cap, by simp [Ref.with], rfl, hl, hm, by simp, ?_⟩
      by_cases h0 : cap = 0
      · exact .inl ⟨by omega, h0⟩
      · refine .inr ⟨?_, by simp⟩
        have h0 := hspot (by omega)
        cases a' with
        | mk b o s => simp only at h0; subst h0; rfl
    · rw [hx]
      refine ⟨rfl, rfl, .inr rfl, (by simp; omega), ?_, ?_⟩
      · simp only [Heap.row]
        split
        · rename_i hn; subst hn; simp
        · simp only [Heap.read, Heap.get_new, if_true]
          rw [if_pos (by simp; omega)]
          congr 1
          rw [List.drop_zero, Nat.mul_one]
          apply List.take_of_length_le
          rw [List.length_map, hx]
          exact Nat.le_refl _
      · intro k' hk'
        simp only [AV.bid, Option.some.injEq] at hk'
        subst hk'
        exact Heap.lt_new _ _ _

theorem trodAll_stays (hl : laidOutB P = true) {W' : World} {sp : Nat → Bool} : ∀ {ts : List TypeId} {vs : List Value} {ds : List (DataW T)} {ps : List MemPlace},
    (∀ t ∈ ts, P.readableRec t = true ∧ t < P.types.size) → DataW.TrodAll enc P W 0 (fun _ => true) true ts vs ds ps → (∀ p ∈ ps, W.sameAt W' p) → (∀ p ∈ ps, sp p.block = true) → DataW.TrodAll enc P W' 0 sp true ts vs ds ps
  | [], vs, ds, ps, hr, h, _, _ => by
    cases vs <;> cases ds <;> simp_all [DataW.TrodAll]
  | t :: ts, vs, ds, ps, hr, h, h1, h2 => by
    obtain ⟨v, vs', d, ds', p, q, rfl, rfl, rfl, hd, hrest⟩ := trodAll_cons h
    refine trodAll_cons_mk (WideElems.Trod_stays hl (hr t (by simp)).1 (hr t (by simp)).2 hd (fun x hx => h1 x (by simp [hx])) (fun x hx => h2 x (by simp [hx]))) ?_
    exact trodAll_stays hl (fun x hx => hr x (by simp [hx])) hrest (fun x hx => h1 x (by simp [hx])) (fun x hx => h2 x (by simp [hx]))

/-- the contract that a row asks, from that of the law in abstract memory -/
theorem law_contract {f : FuncId} {fn : Func} {s : ChangeSpec} {args : Array Value} {ds gs : List (DataW T)} {before : List MemPlace} {tb : TypeId} {fresh handsOn : Bool}
    (hl : laidOutB P = true) (hr : ∀ t ∈ fn.params.toList, P.readableRec t = true ∧ t < P.types.size)
    (hres : fn.resultTypes = #[tb]) (hb : P.underlying tb = some .bool) (hvars : s.vars = [])
    (hW : DataW.Whole enc P fn.params.toList s.vars false W args.toList ds gs before)
    (hfn : s.fn T ds = { results := [.lit (.bool true)], args := ds })
    {ι : Nat → Option Ref} {H : Heap} (hS : Start W ι H) {avs : List AV} (ha : VRelL ι avs args.toList)
    (hc : ACalls P f avs H fun r _ => r = .bool true) :
    Calls P f args W fun e W' => ∃ v, e = .returned v ∧ s.post enc P fn false fresh handsOn false W args v W' := by
  refine (hc ι W args hS.rel ha).mono fun e W' ⟨r, u, H', ι', he, hr', hv, hrel, hx⟩ => ?_
  subst hr'
  simp only [VRel] at hv
  subst hv
  refine ⟨_, he, ?_⟩
  have hbelow : Below W.heap.size W W' := ⟨hx.os, hx.tape, hx.output, hx.wsize, fun k hk => hx.rows k hk (fun id b r h1 h2 _ => by rw [hS.ro id b h1] at h2; cases h2) (fun id o r h1 _ => by rw [hS.ob] at h1; cases h1)⟩
  have hlt := hW.lt
  have hW' := hW
  obtain ⟨p, q, hA, hV, rfl, hz, hn⟩ := hW
  have hV' := hV
  rw [hvars] at hV'
  obtain ⟨rfl, rfl⟩ := trodVars_none hV'
  simp only [List.append_nil] at *
  refine ⟨ds, [], p, [], p, [], hW', ?_, ?_, ?_, hbelow.frame _, by simp⟩
  · simp only [List.append_nil]
    rw [hfn, hres]
    have : (Value.bool true).resultList #[tb].size = [.bool true] := rfl
    rw [this]
    exact trodAll_cons_mk (shut_bool hb true) trodAll_mk0
  · simp only [List.append_nil]
    rw [hfn]
    exact trodAll_stays hl hr hA (fun x hx => hbelow.same (hlt x hx)) (fun x hx => by simpa using hlt x hx)
  · simp only [List.append_nil]
    rw [hfn, hvars]
    rfl

/-- an argument that is a struct of four whole numbers -/
theorem open_ints4 {b0 : Nat} {t : TypeId} {f0 f1 f2 f3 : Field} {v : Value} {d : DataW T} {ps : List MemPlace} (hs : P.underlying t = some (.struct #[f0, f1, f2, f3])) (hone : oneCellFields P #[f0, f1, f2, f3] = true) (hC : P.cellsOf t = 4)
    (h0 : P.underlying f0.type = some (.int .i64)) (h1 : P.underlying f1.type = some (.int .i64)) (h2 : P.underlying f2.type = some (.int .i64)) (h3 : P.underlying f3.type = some (.int .i64))
    (hv : Value.okWide P W .any b0 t v) (h : DataW.Trod enc P W 0 (fun _ => true) true t v d ps) :
    ∃ a b c e : Int, v = .agg #[.int .i64 a, .int .i64 b, .int .i64 c, .int .i64 e] ∧ d = .agg [.lit (.int .i64 a), .lit (.int .i64 b), .lit (.int .i64 c), .lit (.int .i64 e)] ∧ ps = [] ∧
      (Lit.int .i64 a).wf = true ∧ (Lit.int .i64 b).wf = true ∧ (Lit.int .i64 c).wf = true ∧ (Lit.int .i64 e).wf = true := by
  obtain ⟨v0, v1, v2, v3, y0, y1, y2, y3, n, rfl, rfl, rfl, k0, k1, k2, k3⟩ := open_agg4 hs hone hC hv h
  obtain ⟨a, e0, r0, w0⟩ := DataW.trod_int h0 k0
  obtain ⟨b, e1, r1, w1⟩ := DataW.trod_int h1 k1
  obtain ⟨c, e2, r2, w2⟩ := DataW.trod_int h2 k2
  obtain ⟨e, e3, r3, w3⟩ := DataW.trod_int h3 k3
  simp only [List.cons.injEq, and_true] at e0 e1 e2 e3
  subst e0; subst e1; subst e2; subst e3
  subst r0; subst r1; subst r2; subst r3
  exact ⟨a, b, c, e, rfl, rfl, rfl, w0, w1, w2, w3⟩
end
end Go.Rx
