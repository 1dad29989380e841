/-
  RxC: what relates the abstract machine to the program's own: memory; each operation.
-/
import Derived.Test.YtophpmdlgphihapRxB
namespace Go.Rx
set_option linter.unusedVariables false
set_option linter.unusedSimpArgs false

def BlkRel (ι : Nat → Option Ref) (w : World) (b : Blk) (r : Ref) : Prop :=
  match b.rw with
  | true => ∃ c e, w.heap[r.row]? = some (.cells c e (0, 0)) ∧ r.off + r.room ≤ c.size ∧ b.cells.length ≤ r.room ∧ VRelL ι b.cells ((c.toList.drop r.off).take b.cells.length)
  | false => ∀ i a, b.cells[i]? = some a → ∃ v, w.cell? ⟨r.row, r.off + i, none⟩ = some v ∧ VRel ι a v

/-- the entries of a map -/
def MEs (ι : Nat → Option Ref) : List ME → List MapEntry → Prop
  | [], l => l = []
  | e :: es, l => ∃ v r, l = v :: r ∧ v.born = e.born ∧ VRel ι e.key v.key ∧ VRel ι e.val v.val ∧ MEs ι es r

def MORel (ι : Nat → Option Ref) (w : World) (m : MO) (r : Ref) : Prop :=
  match m with
  | .map es clock => ∃ vs : Array MapEntry, w.heap[r.row]? = some (.map vs clock) ∧ MEs ι es vs.toList
  | .iter m since seen last => r.off = 0 ∧ ∃ q, ι m = some q ∧ w.heap[r.row]? = some (.mapIter (some q.row) since seen.toArray last)

def OBRel (ι : Nat → Option Ref) (w : World) (o : OB) (r : Ref) : Prop :=
  match o.mo with
  | none => w.heap[r.row]? = some (.loop o.lp) ∧ ∀ i, VRel ι (o.τ i) (o.lp.tmps.getD i undef)
  | some m => MORel ι w m r

structure HRel (ι : Nat → Option Ref) (H : Heap) (w : World) : Prop where
  fresh : ∀ id, H.size ≤ id → ι id = none
  blk : ∀ id b, H.get id = some b → ∃ r, ι id = some r ∧ BlkRel ι w b r
  apart : ∀ id b r id' b' r', H.get id = some b → H.get id' = some b' → b.rw = true → (b'.rw = true ∨ b'.cells ≠ []) → ι id = some r → ι id' = some r' → r.row = r'.row → id = id'
  obs : ∀ id o, H.ob id = some o → ∃ r, ι id = some r ∧ OBRel ι w o r
  oapart : ∀ id o r id' o' r', H.ob id = some o → H.ob id' = some o' → ι id = some r → ι id' = some r' → r.row = r'.row → id = id'
  gl : GlOk ι

structure HExt (ι : Nat → Option Ref) (H : Heap) (w : World) (ι' : Nat → Option Ref) (H' : Heap) (w' : World) : Prop where
  le : Ref.le ι ι'
  size : H.size ≤ H'.size
  wsize : w.heap.size ≤ w'.heap.size
  os : w'.os = w.os
  tape : w'.tape = w.tape
  output : w'.output = w.output
  rows : ∀ k, k < w.heap.size → (∀ id b r, H.get id = some b → b.rw = true → ι id = some r → r.row ≠ k) → (∀ id o r, H.ob id = some o → ι id = some r → r.row ≠ k) → w'.heap[k]? = w.heap[k]?
  news : ∀ id b r, H'.get id = some b → b.rw = true → ι' id = some r → w.heap.size ≤ r.row ∨ ∃ id0 b0 r0, H.get id0 = some b0 ∧ b0.rw = true ∧ ι id0 = some r0 ∧ r0.row = r.row
  newo : ∀ id o r, H'.ob id = some o → ι' id = some r → w.heap.size ≤ r.row ∨ ∃ id0 o0 r0, H.ob id0 = some o0 ∧ ι id0 = some r0 ∧ r0.row = r.row

theorem MEs.mono {ι ι' : Nat → Option Ref} (h : Ref.le ι ι') : ∀ {es : List ME} {l : List MapEntry}, MEs ι es l → MEs ι' es l
  | [], l, k => k
  | e :: es, l, ⟨v, r, h1, h2, h3, h4, h5⟩ => ⟨v, r, h1, h2, VRel.mono h _ _ h3, VRel.mono h _ _ h4, MEs.mono h h5⟩

theorem OBRel.mono {ι ι' : Nat → Option Ref} (h : Ref.le ι ι') {w : World} {o : OB} {r : Ref} (k : OBRel ι w o r) : OBRel ι' w o r := by
  unfold OBRel at k ⊢
  split at k
  · exact ⟨k.1, fun i => VRel.mono h _ _ (k.2 i)⟩
  · unfold MORel at k ⊢
    split at k
    · obtain ⟨vs, h1, h2⟩ := k
      exact ⟨vs, h1, h2.mono h⟩
    · obtain ⟨h0, q, h1, h2⟩ := k
      exact ⟨h0, q, h _ _ h1, h2⟩

/-- where its row is as it was -/
theorem OBRel.keep {ι : Nat → Option Ref} {w w' : World} {o : OB} {r : Ref} (k : OBRel ι w o r) (hr : w'.heap[r.row]? = w.heap[r.row]?) : OBRel ι w' o r := by
  unfold OBRel at k ⊢
  split at k
  · exact ⟨by rw [hr]; exact k.1, k.2⟩
  · unfold MORel at k ⊢
    split at k
    · rw [hr]; exact k
    · rw [hr]; exact k

def isOb : Obj → Bool
  | .loop _ | .map .. | .mapIter .. => true
  | _ => false

theorem OBRel.row {ι : Nat → Option Ref} {w : World} {o : OB} {r : Ref} (k : OBRel ι w o r) : ∃ x, w.heap[r.row]? = some x ∧ isOb x = true := by
  unfold OBRel at k
  split at k
  · exact ⟨_, k.1, rfl⟩
  · unfold MORel at k
    split at k
    · obtain ⟨vs, h1, _⟩ := k
      exact ⟨_, h1, rfl⟩
    · obtain ⟨_, q, _, h1⟩ := k
      exact ⟨_, h1, rfl⟩

theorem OBRel.loop {ι : Nat → Option Ref} {w : World} {o : OB} {r : Ref} (k : OBRel ι w o r) (h : o.mo = none) : w.heap[r.row]? = some (.loop o.lp) ∧ ∀ i, VRel ι (o.τ i) (o.lp.tmps.getD i undef) := by
  unfold OBRel at k
  rw [h] at k
  exact k

theorem OBRel.mo {ι : Nat → Option Ref} {w : World} {o : OB} {r : Ref} {m : MO} (k : OBRel ι w o r) (h : o.mo = some m) : MORel ι w m r := by
  unfold OBRel at k
  rw [h] at k
  exact k

theorem Ref.le_refl (ι : Nat → Option Ref) : Ref.le ι ι := fun _ _ h => h

theorem HExt.refl (ι : Nat → Option Ref) (H : Heap) (w : World) : HExt ι H w ι H w :=
  ⟨Ref.le_refl ι, Nat.le_refl _, Nat.le_refl _, rfl, rfl, rfl, fun _ _ _ _ => rfl, fun id b r h1 h2 h3 => .inr ⟨id, b, r, h1, h2, h3, rfl⟩, fun id o r h1 h2 => .inr ⟨id, o, r, h1, h2, rfl⟩⟩

theorem HExt.drew {ι : Nat → Option Ref} {H : Heap} {w : World} (n : Nat) : HExt ι H w ι H { w with drawn := w.drawn + n } :=
  ⟨Ref.le_refl ι, Nat.le_refl _, Nat.le_refl _, rfl, rfl, rfl, fun _ _ _ _ => rfl, fun id b r h1 h2 h3 => .inr ⟨id, b, r, h1, h2, h3, rfl⟩, fun id o r h1 h2 => .inr ⟨id, o, r, h1, h2, rfl⟩⟩

theorem HExt.trans {ι ι' ι'' : Nat → Option Ref} {H H' H'' : Heap} {w w' w'' : World} (h : HExt ι H w ι' H' w') (k : HExt ι' H' w' ι'' H'' w'') : HExt ι H w ι'' H'' w'' where
  le := fun id r hr => k.le _ _ (h.le _ _ hr)
  size := Nat.le_trans h.size k.size
  wsize := Nat.le_trans h.wsize k.wsize
  os := k.os.trans h.os
  tape := k.tape.trans h.tape
  output := k.output.trans h.output
  rows := fun i hi hne hno => (k.rows i (Nat.lt_of_lt_of_le hi h.wsize) (fun id b r h1 h2 h3 e => by
    rcases h.news id b r h1 h2 h3 with h4 | ⟨id0, b0, r0, g1, g2, g3, g4⟩
    · omega
    · exact hne id0 b0 r0 g1 g2 g3 (g4.trans e)) (fun id o r h1 h2 e => by
    rcases h.newo id o r h1 h2 with h4 | ⟨id0, o0, r0, g1, g2, g3⟩
    · omega
    · exact hno id0 o0 r0 g1 g2 (g3.trans e))).trans (h.rows i hi hne hno)
  newo := fun id o r h1 h2 => by
    rcases k.newo id o r h1 h2 with h4 | ⟨id0, o0, r0, g1, g2, g3⟩
    · exact .inl (Nat.le_trans h.wsize h4)
    · rcases h.newo id0 o0 r0 g1 g2 with h4 | ⟨id1, o1, r1, f1, f2, f3⟩
      · exact .inl (by omega)
      · exact .inr ⟨id1, o1, r1, f1, f2, f3.trans g3⟩
  news := fun id b r h1 h2 h3 => by
    rcases k.news id b r h1 h2 h3 with h4 | ⟨id0, b0, r0, g1, g2, g3, g4⟩
    · exact .inl (Nat.le_trans h.wsize h4)
    · rcases h.news id0 b0 r0 g1 g2 g3 with h4 | ⟨id1, b1, r1, f1, f2, f3, f4⟩
      · exact .inl (by omega)
      · exact .inr ⟨id1, b1, r1, f1, f2, f3, f4.trans g4⟩

theorem BlkRel.mono {ι ι' : Nat → Option Ref} (h : Ref.le ι ι') {w : World} {b : Blk} {r : Ref} (hb : BlkRel ι w b r) : BlkRel ι' w b r := by
  unfold BlkRel at *
  split at hb
  · obtain ⟨c, e, h1, h2, h3, h4⟩ := hb
    exact ⟨c, e, h1, h2, h3, VRelL.mono h _ _ h4⟩
  · intro i a ha
    obtain ⟨v, hv, hr⟩ := hb i a ha
    exact ⟨v, hv, VRel.mono h _ _ hr⟩

/-- a draw changes nothing -/
theorem HRel.drew {ι : Nat → Option Ref} {H : Heap} {w : World} (h : HRel ι H w) (n : Nat) : HRel ι H { w with drawn := w.drawn + n } :=
  ⟨h.fresh, fun id b hb => by
    obtain ⟨r, hr, hB⟩ := h.blk id b hb
    refine ⟨r, hr, ?_⟩
    unfold BlkRel at *
    split at hB
    · exact hB
    · exact hB, h.apart, h.obs, h.oapart, h.gl⟩

theorem add_lit (r o k : Nat) : (⟨r, o, none⟩ : Addr).add k = ⟨r, o + k, none⟩ := by
  unfold Addr.add; split <;> simp_all

/-- reading n cells -/
theorem HRel.read {ι : Nat → Option Ref} {H : Heap} {w : World} (h : HRel ι H w) {id off n : Nat} {cs : List AV} (hr : H.read (.ptr id off) n = some cs) :
    ∃ r vs, ι id = some r ∧ VRelL ι cs vs ∧ cs.length = n ∧ ∀ j u, vs[j]? = some u → w.cell? ⟨r.row, r.off + off + j, none⟩ = some u := by
  simp only [Heap.read] at hr
  split at hr
  · rename_i b hb
    split at hr
    · rename_i hlen
      simp only [Option.some.injEq] at hr
      subst hr
      obtain ⟨r, hι, hB⟩ := h.blk id b hb
      have hl : ((b.cells.drop off).take n).length = n := by simp; omega
      unfold BlkRel at hB
      split at hB
      · obtain ⟨c, e, h1, h2, h3, h4⟩ := hB
        refine ⟨r, _, hι, (h4.drop off).take n, hl, ?_⟩
        intro j u hu
        rw [List.getElem?_take] at hu
        split at hu
        · rename_i hj
          rw [List.getElem?_drop, List.getElem?_take] at hu
          split at hu
          · rw [List.getElem?_drop] at hu
            rw [cell_of_row w r.row _ c e (0, 0) h1, ← hu]
            simp [Nat.add_assoc]
          · cases hu
        · cases hu
      · have hall : ∀ j, ∃ v, j < n → (w.cell? ⟨r.row, r.off + off + j, none⟩ = some v ∧ VRel ι (b.cells.getD (off + j) .any) v) := by
          intro j
          by_cases hj : j < n
          · have hlt : off + j < b.cells.length := by omega
            obtain ⟨v, hv, hrel⟩ := hB (off + j) b.cells[off + j] (List.getElem?_eq_getElem hlt)
            exact ⟨v, fun _ => ⟨by rw [← hv]; simp [Nat.add_assoc], by simpa [List.getD, List.getElem?_eq_getElem hlt] using hrel⟩⟩
          · exact ⟨undef, fun h => absurd h hj⟩
        obtain ⟨f, hf⟩ := Classical.axiomOfChoice hall
        refine ⟨r, (List.range n).map f, hι, ?_, hl, ?_⟩
        · rw [VRelL.iff]
          refine ⟨by simp; omega, ?_⟩
          intro i a v ha hv
          rw [List.getElem?_take] at ha
          split at ha
          · rename_i hi
            rw [List.getElem?_drop] at ha
            have := (hf i hi).2
            simp only [List.getElem?_map, List.getElem?_range hi, Option.map_some, Option.some.injEq] at hv
            subst hv
            simpa [List.getD, ha] using this
          · cases ha
        · intro j u hu
          simp only [List.getElem?_map] at hu
          by_cases hj : j < n
          · simp only [List.getElem?_range hj, Option.map_some, Option.some.injEq] at hu
            subst hu
            exact (hf j hj).1
          · rw [List.getElem?_eq_none (by simpa using hj)] at hu
            cases hu
    · cases hr
  · cases hr

theorem Heap.get_put (H : Heap) (id : Nat) (b : Option Blk) (i : Nat) : (H.put id b).get i = if i = id then b else H.get i := rfl
theorem Heap.size_put (H : Heap) (id : Nat) (b : Option Blk) : (H.put id b).size = H.size := rfl
theorem Heap.size_le_put (H : Heap) (id : Nat) (b : Option Blk) : H.size ≤ (H.put id b).size := Nat.le_refl _
theorem Heap.get_new (H : Heap) (id : Nat) (b : Option Blk) (i : Nat) : (H.new id b).get i = if i = id then b else H.get i := rfl
theorem Heap.size_new (H : Heap) (id : Nat) (b : Option Blk) : (H.new id b).size = if id < H.size then H.size else id + 1 := rfl
theorem Heap.size_le_new (H : Heap) (id : Nat) (b : Option Blk) : H.size ≤ (H.new id b).size := by rw [Heap.size_new]; split <;> omega
theorem Heap.lt_new (H : Heap) (id : Nat) (b : Option Blk) : id < (H.new id b).size := by rw [Heap.size_new]; split <;> omega

def Ref.with (ι : Nat → Option Ref) (id : Nat) (r : Ref) : Nat → Option Ref := fun i => if i = id then some r else ι i

theorem Ref.le_with {ι : Nat → Option Ref} {id : Nat} (r : Ref) (h : ι id = none) : Ref.le ι (Ref.with ι id r) := by
  intro i x hx
  unfold Ref.with
  split
  · rename_i e; subst e; rw [h] at hx; cases hx
  · exact hx

theorem HRel.ob_lt {ι : Nat → Option Ref} {H : Heap} {w : World} (h : HRel ι H w) {id : Nat} {o : OB} {r : Ref} (hb : H.ob id = some o) (hr : ι id = some r) : r.row < w.heap.size := by
  obtain ⟨r', hr', hB⟩ := h.obs id o hb
  rw [hr] at hr'; injection hr' with e; subst e
  obtain ⟨x, h1, _⟩ := hB.row
  exact (Array.getElem?_eq_some_iff.1 h1).1

theorem HRel.row_lt {ι : Nat → Option Ref} {H : Heap} {w : World} (h : HRel ι H w) {id : Nat} {b : Blk} {r : Ref} (hb : H.get id = some b) (hrw : b.rw = true) (hr : ι id = some r) : r.row < w.heap.size := by
  obtain ⟨r', hr', hB⟩ := h.blk id b hb
  rw [hr] at hr'; injection hr' with e; subst e
  unfold BlkRel at hB
  rw [hrw] at hB
  obtain ⟨c, e, h1, _⟩ := hB
  exact (Array.getElem?_eq_some_iff.1 h1).1

/-- where old rows are as they were, blocks are -/
theorem BlkRel.keep {ι : Nat → Option Ref} {w w' : World} {b : Blk} {r : Ref} (hB : BlkRel ι w b r) (hrow : w'.heap[r.row]? = w.heap[r.row]?) : BlkRel ι w' b r := by
  unfold BlkRel at *
  split at hB
  · rw [hrow]; exact hB
  · intro i a ha
    obtain ⟨v, hv, hr⟩ := hB i a ha
    exact ⟨v, by rw [← hv]; exact World.cell?_of_block hrow, hr⟩

/-- a read-only block with a cell lies in the heap -/
theorem BlkRel.lt {ι : Nat → Option Ref} {w : World} {b : Blk} {r : Ref} (hB : BlkRel ι w b r) : r.row < w.heap.size ∨ b.cells = [] := by
  unfold BlkRel at hB
  split at hB
  · obtain ⟨c, e, h1, _⟩ := hB
    exact .inl (Array.getElem?_eq_some_iff.1 h1).1
  · cases hc : b.cells with
    | nil => exact .inr rfl
    | cons a l =>
      obtain ⟨v, hv, _⟩ := hB 0 a (by simp [hc])
      exact .inl (World.block_lt_of_cell? w _ hv)

theorem HRel.alloc {ι : Nat → Option Ref} {H : Heap} {w w1 : World} (h : HRel ι H w) {nid : Nat} (hn : ι nid = none) (hn' : nid ≤ H.size) {c : Array Value} {e : TypeId}
    (hw : w1.heap = w.heap.push (.cells c e (0, 0))) (ho : w1.os = w.os) (ht : w1.tape = w.tape) (hu : w1.output = w.output) {cs : List AV} {vs rest : List Value} (hv : VRelL ι cs vs) (hc : c.toList = vs ++ rest) :
    HRel (Ref.with ι nid ⟨w.heap.size, 0, c.size⟩) (H.new nid (some ⟨true, cs⟩)) w1 ∧ HExt ι H w (Ref.with ι nid ⟨w.heap.size, 0, c.size⟩) (H.new nid (some ⟨true, cs⟩)) w1 := by
  have hle := Ref.le_with (ι := ι) ⟨w.heap.size, 0, c.size⟩ hn
  have hold : ∀ k, k < w.heap.size → w1.heap[k]? = w.heap[k]? := fun k hk => by rw [hw, Array.getElem?_push, if_neg (by omega)]
  have hdead : H.get nid = none := by
    cases hg : H.get nid with
    | none => rfl
    | some b => obtain ⟨r, hr, _⟩ := h.blk nid b hg; rw [hn] at hr; cases hr
  have oold : ∀ id o r, H.ob id = some o → Ref.with ι nid ⟨w.heap.size, 0, c.size⟩ id = some r → ι id = some r := by
    intro id o r ho1 hr
    obtain ⟨r1, h1, h2⟩ := h.obs id o ho1
    rw [hle _ _ h1] at hr; injection hr with e; rw [← e]; exact h1
  refine ⟨⟨?_, ?_, ?_, fun id o hob => ?_, fun id o r id' o' r' h1 h2 h3 h4 => h.oapart id o r id' o' r' h1 h2 (oold id o r h1 h3) (oold id' o' r' h2 h4), h.gl.le hle⟩, ⟨hle, Heap.size_le_new _ _ _, by rw [hw]; simp, ho, ht, hu, fun k hk _ _ => hold k hk, ?_, fun id o r h1 h2 => .inr ⟨id, o, r, h1, oold id o r h1 h2, rfl⟩⟩⟩
  rotate_left 3
  · obtain ⟨r, h1, h2⟩ := h.obs id o hob
    exact ⟨r, hle _ _ h1, (h2.mono hle).keep (hold _ (h.ob_lt hob h1))⟩
  rotate_left 1
  · intro id hid
    rw [Heap.size_new] at hid
    unfold Ref.with
    split
    · rename_i e; subst e; split at hid <;> omega
    · apply h.fresh; split at hid <;> omega
  · intro id b hb
    rw [Heap.get_new] at hb
    split at hb
    · rename_i e; subst e
      simp only [Option.some.injEq] at hb; subst hb
      refine ⟨⟨w.heap.size, 0, c.size⟩, by simp [Ref.with], ?_⟩
      unfold BlkRel
      have hl := hv.length
      have hcs : c.size = vs.length + rest.length := by rw [← Array.length_toList, hc, List.length_append]
      refine ⟨c, _, by rw [hw, Array.getElem?_push, if_pos rfl], by simp, by rw [hcs]; simp only; omega, ?_⟩
      simp only [List.drop_zero, hc]
      rw [show cs.length = vs.length from hl, List.take_left]
      exact VRelL.mono hle _ _ hv
    · rename_i hne
      obtain ⟨r, hr, hB⟩ := h.blk id b hb
      refine ⟨r, hle _ _ hr, ?_⟩
      rcases hB.lt with hlt | hnil
      · exact (hB.mono hle).keep (hold _ hlt)
      · unfold BlkRel at hB ⊢
        cases hrw : b.rw with
        | true =>
          rw [hrw] at hB
          obtain ⟨c', e', h1, h2⟩ := hB
          rw [hold _ (Array.getElem?_eq_some_iff.1 h1).1]
          exact ⟨c', e', h1, h2.1, h2.2.1, VRelL.mono hle _ _ h2.2.2⟩
        | false => intro i a ha; rw [hnil] at ha; simp at ha
  · intro id b r id' b' r' hb hb' hrw hsome hr hr' hrow
    rw [Heap.get_new] at hb hb'
    unfold Ref.with at hr hr'
    by_cases e : id = nid <;> by_cases e' : id' = nid
    · rw [e, e']
    · rw [if_pos e] at hb hr; rw [if_neg e'] at hb' hr'
      simp only [Option.some.injEq] at hr; subst hr
      exfalso
      obtain ⟨r2, hr2, hB⟩ := h.blk id' b' hb'
      rw [hr'] at hr2; injection hr2 with e2; subst e2
      have hlt : r'.row < w.heap.size := by
        rcases hB.lt with h1 | h1
        · exact h1
        · rcases hsome with h2 | h2
          · exact h.row_lt hb' h2 hr'
          · exact absurd h1 h2
      simp at hrow; omega
    · rw [if_neg e] at hb hr; rw [if_pos e'] at hb' hr'
      simp only [Option.some.injEq] at hr'; subst hr'
      have := h.row_lt hb hrw hr
      simp at hrow; omega
    · rw [if_neg e] at hb hr; rw [if_neg e'] at hb' hr'
      exact h.apart id b r id' b' r' hb hb' hrw hsome hr hr' hrow
  · intro id b r hb hrw hr
    rw [Heap.get_new] at hb
    unfold Ref.with at hr
    split at hb
    · rename_i e; rw [if_pos e] at hr; simp only [Option.some.injEq] at hr; subst hr; exact .inl (Nat.le_refl _)
    · rename_i e; rw [if_neg e] at hr; exact .inr ⟨id, b, r, hb, hrw, hr, rfl⟩

theorem HRel.kill {ι : Nat → Option Ref} {H : Heap} {w : World} (h : HRel ι H w) (id : Nat) (hid : id < H.size) : HRel ι (H.put id none) w where
  fresh := fun i hi => h.fresh i (by rw [Heap.size_put] at hi; exact hi)
  blk := fun i b hb => by
    rw [Heap.get_put] at hb
    split at hb
    · cases hb
    · exact h.blk i b hb
  apart := fun i b r i' b' r' hb hb' h1 h2 h3 h4 h5 => by
    rw [Heap.get_put] at hb hb'
    split at hb
    · cases hb
    · split at hb'
      · cases hb'
      · exact h.apart i b r i' b' r' hb hb' h1 h2 h3 h4 h5
  obs := h.obs
  oapart := h.oapart
  gl := h.gl

theorem HRel.id_lt {ι : Nat → Option Ref} {H : Heap} {w : World} (h : HRel ι H w) {id : Nat} {b : Blk} (hb : H.get id = some b) : id < H.size := by
  rcases Nat.lt_or_ge id H.size with h1 | h1
  · exact h1
  · obtain ⟨r, hr, _⟩ := h.blk id b hb
    rw [h.fresh id h1] at hr; cases hr

/-- a row that no live block has is taken up by a new one -/
theorem HRel.adopt {ι : Nat → Option Ref} {K : Heap} {w w' : World} (h : HRel ι K w) {nid : Nat} (hn : ι nid = none) (hn' : nid ≤ K.size) {g : Nat} {cur : Array Value} {e : TypeId}
    (hg : w'.heap[g]? = some (.cells cur e (0, 0))) (hsame : ∀ k, k ≠ g → w'.heap[k]? = w.heap[k]?)
    (hfree : ∀ id b r, K.get id = some b → (b.rw = true ∨ b.cells ≠ []) → ι id = some r → r.row ≠ g) (hgo : ∀ o, isOb o = true → w.heap[g]? ≠ some o)
    {r : Ref} (hr : r.row = g) (hroom : r.off + r.room ≤ cur.size) {cs : List AV} (hlen : cs.length ≤ r.room) (hv : VRelL ι cs ((cur.toList.drop r.off).take cs.length)) :
    HRel (Ref.with ι nid r) (K.new nid (some ⟨true, cs⟩)) w' := by
  have hle := Ref.le_with (ι := ι) r hn
  have oold : ∀ id o r2, K.ob id = some o → Ref.with ι nid r id = some r2 → ι id = some r2 := by
    intro id o r2 ho1 hr
    obtain ⟨r1, h1, h2⟩ := h.obs id o ho1
    rw [hle _ _ h1] at hr; injection hr with e; rw [← e]; exact h1
  refine ⟨?_, ?_, ?_, fun id o hob => ?_, fun id o r id' o' r' h1 h2 h3 h4 => h.oapart id o r id' o' r' h1 h2 (oold id o r h1 h3) (oold id' o' r' h2 h4), h.gl.le hle⟩
  rotate_left 3
  · obtain ⟨r1, h1, h2⟩ := h.obs id o hob
    refine ⟨r1, hle _ _ h1, (h2.mono hle).keep (hsame _ (fun e => ?_))⟩
    obtain ⟨x, k1, k2⟩ := h2.row
    exact hgo x k2 (by rw [← e]; exact k1)
  · intro id hid
    rw [Heap.size_new] at hid
    unfold Ref.with
    split
    · rename_i e; subst e; split at hid <;> omega
    · apply h.fresh; split at hid <;> omega
  · intro id b hb
    rw [Heap.get_new] at hb
    split at hb
    · rename_i e'; subst e'
      simp only [Option.some.injEq] at hb; subst hb
      refine ⟨r, by simp [Ref.with], ?_⟩
      unfold BlkRel
      exact ⟨cur, e, by rw [hr]; exact hg, hroom, hlen, VRelL.mono hle _ _ hv⟩
    · obtain ⟨r2, hr2, hB⟩ := h.blk id b hb
      refine ⟨r2, hle _ _ hr2, ?_⟩
      by_cases hsome : b.rw = true ∨ b.cells ≠ []
      · exact (hB.mono hle).keep (hsame _ (hfree id b r2 hb hsome hr2))
      · have h1 : b.rw = false := by cases hb' : b.rw <;> simp_all
        have h2 : b.cells = [] := by cases hb' : b.cells <;> simp_all
        unfold BlkRel
        rw [h1]
        intro i a ha; rw [h2] at ha; simp at ha
  · intro id b r1 id' b' r1' hb hb' hrw hsome h1 h1' hrow
    rw [Heap.get_new] at hb hb'
    unfold Ref.with at h1 h1'
    by_cases e1 : id = nid <;> by_cases e2 : id' = nid
    · rw [e1, e2]
    · rw [if_pos e1] at hb h1; rw [if_neg e2] at hb' h1'
      simp only [Option.some.injEq] at h1; subst h1
      exact absurd (hrow.symm.trans hr) (hfree id' b' r1' hb' hsome h1')
    · rw [if_neg e1] at hb h1; rw [if_pos e2] at hb' h1'
      simp only [Option.some.injEq] at h1'; subst h1'
      exact absurd (hrow.trans hr) (hfree id b r1 hb (.inl hrw) h1)
    · rw [if_neg e1] at hb h1; rw [if_neg e2] at hb' h1'
      exact h.apart id b r1 id' b' r1' hb hb' hrw hsome h1 h1' hrow

/-- cells of a block laid anew -/
theorem HRel.rewrite {ι : Nat → Option Ref} {H : Heap} {w w' : World} (h : HRel ι H w) {id : Nat} {b : Blk} {r : Ref} (hb : H.get id = some b) (hrw : b.rw = true) (hr : ι id = some r) {cur : Array Value} {e : TypeId}
    (hg : w'.heap[r.row]? = some (.cells cur e (0, 0))) (hsame : ∀ k, k ≠ r.row → w'.heap[k]? = w.heap[k]?) (hroom : r.off + r.room ≤ cur.size) {cs : List AV} (hlen : cs.length ≤ r.room)
    (hv : VRelL ι cs ((cur.toList.drop r.off).take cs.length)) : HRel ι (H.put id (some ⟨true, cs⟩)) w' := by
  have hid := h.id_lt hb
  have hcell : ∀ o, isOb o = true → w.heap[r.row]? ≠ some o := fun o ho e => by
    obtain ⟨r2, h1, h2⟩ := h.blk id b hb
    rw [hr] at h1; injection h1 with e1; subst e1
    unfold BlkRel at h2; rw [hrw] at h2
    obtain ⟨c, e', h3, _⟩ := h2
    rw [h3] at e; cases e; cases ho
  refine ⟨fun i hi => h.fresh i (by rw [Heap.size_put] at hi; exact hi), ?_, ?_, fun i o hob => ?_, h.oapart, h.gl⟩
  rotate_left 2
  · obtain ⟨r1, h1, h2⟩ := h.obs i o hob
    refine ⟨r1, h1, h2.keep (hsame _ (fun e => ?_))⟩
    obtain ⟨x, k1, k2⟩ := h2.row
    exact hcell x k2 (by rw [← e]; exact k1)
  · intro i b' hb'
    rw [Heap.get_put] at hb'
    split at hb'
    · rename_i e'; subst e'
      simp only [Option.some.injEq] at hb'; subst hb'
      refine ⟨r, hr, ?_⟩
      unfold BlkRel
      exact ⟨cur, e, hg, hroom, hlen, hv⟩
    · rename_i hne
      obtain ⟨r2, hr2, hB⟩ := h.blk i b' hb'
      refine ⟨r2, hr2, ?_⟩
      by_cases hsome : b'.rw = true ∨ b'.cells ≠ []
      · exact hB.keep (hsame _ (fun e' => hne (h.apart id b r i b' r2 hb hb' hrw hsome hr hr2 e'.symm).symm))
      · have h1 : b'.rw = false := by cases hb2 : b'.rw <;> simp_all
        have h2 : b'.cells = [] := by cases hb2 : b'.cells <;> simp_all
        unfold BlkRel
        rw [h1]
        intro j a ha; rw [h2] at ha; simp at ha
  · intro i b1 r1 i' b1' r1' hb1 hb1' hrw1 hsome h1 h1' hrow
    rw [Heap.get_put] at hb1 hb1'
    have key : ∀ j bj, (if j = id then some (⟨true, cs⟩ : Blk) else H.get j) = some bj → (bj.rw = true ∨ bj.cells ≠ []) → ∃ bj', H.get j = some bj' ∧ (bj'.rw = true ∨ bj'.cells ≠ []) ∧ (bj.rw = true → bj'.rw = true) := by
      intro j bj hj hs
      split at hj
      · rename_i e'; subst e'; exact ⟨b, hb, .inl hrw, fun _ => hrw⟩
      · exact ⟨bj, hj, hs, fun h => h⟩
    obtain ⟨c1, g1, _, g2⟩ := key i b1 hb1 (.inl hrw1)
    obtain ⟨c1', g1', g2', _⟩ := key i' b1' hb1' hsome
    exact h.apart i c1 r1 i' c1' r1' g1 g1' (g2 hrw1) g2' h1 h1' hrow

theorem HExt.rewrite {ι : Nat → Option Ref} {H : Heap} {w w' : World} {id : Nat} {b : Blk} {r : Ref} (hid : id < H.size) (hb : H.get id = some b) (hrw : b.rw = true) (hr : ι id = some r)
    (hsize : w.heap.size ≤ w'.heap.size) (ho : w'.os = w.os) (ht : w'.tape = w.tape) (hu : w'.output = w.output)
    (hsame : ∀ k, k ≠ r.row → w'.heap[k]? = w.heap[k]?) {cs : List AV} : HExt ι H w ι (H.put id (some ⟨true, cs⟩)) w' := by
  refine ⟨Ref.le_refl ι, Heap.size_le_put _ _ _, hsize, ho, ht, hu, ?_, ?_, fun i o r1 h1 h2 => .inr ⟨i, o, r1, h1, h2, rfl⟩⟩
  · intro k hk hne _
    exact hsame k (fun e => hne id b r hb hrw hr e.symm)
  · intro i b1 r1 hb1 hrw1 h1
    rw [Heap.get_put] at hb1
    split at hb1
    · rename_i e'; subst e'; exact .inr ⟨i, b, r, hb, hrw, hr, by rw [hr] at h1; injection h1 with e; rw [e]⟩
    · exact .inr ⟨i, b1, r1, hb1, hrw1, h1, rfl⟩

theorem list_relay (l : List Value) (off o m : Nat) (us : List Value) (hm : o + us.length ≤ m) (hl : off + m ≤ l.length) :
    ((l.take (off + o) ++ us ++ l.drop (off + o + us.length)).drop off).take m = ((l.drop off).take m).take o ++ us ++ ((l.drop off).take m).drop (o + us.length) := by
  apply List.ext_getElem?
  intro j
  simp only [List.getElem?_take, List.getElem?_drop, List.getElem?_append, List.length_take, List.length_append, List.length_drop]
  have h1 : min (off + o) l.length = off + o := by omega
  have h2 : min o (min m (l.length - off)) = o := by omega
  simp only [h1, h2]
  by_cases hj : j < m
  · by_cases hjo : j < o
    · have : off + j < off + o := by omega
      have : off + j < off + o + us.length := by omega
      have : j < o + us.length := by omega
      simp [hj, hjo, *]
    · by_cases hju : j < o + us.length
      · have a1 : ¬ off + j < off + o := by omega
        have a2 : off + j < off + o + us.length := by omega
        simp [hj, hjo, hju, a1, a2]
        congr 1; omega
      · have a2 : ¬ off + j < off + o + us.length := by omega
        have a3 : o + us.length + (j - (o + us.length)) < m := by omega
        simp only [hj, hju, a2, a3, if_true, if_false]
        congr 1; omega
  · have a1 : ¬ j < o := by omega
    have a2 : ¬ j < o + us.length := by omega
    have a3 : ¬ o + us.length + (j - (o + us.length)) < m := by omega
    simp [hj, a2, a3]

/-- cells of a package's variable -/
theorem HRel.readg {ι : Nat → Option Ref} {H : Heap} {w : World} (h : HRel ι H w) {g off n : Nat} {cs : List AV} (hr : H.read (.gl g off) n = some cs) :
    ∃ vs, VRelL ι cs vs ∧ cs.length = n ∧ ∀ j u, vs[j]? = some u → w.cell? ⟨g, off + j, none⟩ = some u := by
  simp only [Heap.read] at hr
  split at hr
  · rename_i hg
    obtain ⟨r, h1, h2, h3⟩ := h.gl g hg
    obtain ⟨r', vs, k1, k2, k3, k4⟩ := h.read (id := g) (off := off) (n := n) (cs := cs) hr
    rw [h1] at k1; injection k1 with k1; subst k1
    rw [h2, h3, Nat.zero_add] at k4
    exact ⟨vs, k2, k3, k4⟩
  · cases hr

/-- a store of cells, in the program's memory as in the abstract one -/
theorem HRel.write {P : Program} {ι : Nat → Option Ref} {H H' : Heap} {w : World} (h : HRel ι H w) {p : AV} {vs : List AV} (hw : H.write p vs = some H') {v : Value} (hp : VRel ι p v) {us : List Value} (hv : VRelL ι vs us) :
    ∃ a w', v = .pointer (some a) ∧ (storeCells a us).run P w = .ok () w' ∧ HRel ι H' w' ∧ HExt ι H w ι H' w' := by
  unfold Heap.write at hw
  split at hw
  · rename_i id off
    split at hw
    · rename_i b hb
      split at hw
      · rename_i hcond
        obtain ⟨hrw, hlen, hone⟩ := hcond
        simp only [Option.some.injEq] at hw; subst hw
        simp only [VRel] at hp
        obtain ⟨r, hr, rfl⟩ := hp
        obtain ⟨r', hr', hB⟩ := h.blk id b hb
        rw [hr] at hr'; injection hr' with er; subst er
        unfold BlkRel at hB
        rw [hrw] at hB
        obtain ⟨c, e, h1, h2, h3, h4⟩ := hB
        have hul := hv.length
        have h1s : ∀ u ∈ us, u.oneCell' = true := by
          intro u hu
          obtain ⟨j, hj, rfl⟩ := List.mem_iff_getElem.1 hu
          have hj' : j < vs.length := by omega
          have := ((VRelL.iff _ _).1 hv).2 j vs[j] us[j] (List.getElem?_eq_getElem hj') (List.getElem?_eq_getElem hj)
          exact AV.one_cell this (by rw [List.all_eq_true] at hone; exact hone _ (List.getElem_mem hj'))
        have hst := run_storeCells_at P r.row (r.off + off) e us 0 c w h1 (by omega) h1s
        simp only [Nat.add_zero] at hst
        have hlt := (Array.getElem?_eq_some_iff.1 h1).1
        have hg' := setRow_heap w r.row c (c.toList.take (r.off + off) ++ us ++ c.toList.drop (r.off + off + us.length)).toArray e (0, 0) h1
        have hsame : ∀ k, k ≠ r.row → (w.setRow r.row (c.toList.take (r.off + off) ++ us ++ c.toList.drop (r.off + off + us.length)).toArray).heap[k]? = w.heap[k]? := fun k hk => setRow_other w r.row k _ hk
        have hcl : b.cells.length = (b.cells.take off ++ vs ++ b.cells.drop (off + vs.length)).length := by simp; omega
        refine ⟨_, _, rfl, hst, h.rewrite hb hrw hr hg' hsame ?_ (by omega) ?_, HExt.rewrite (h.id_lt hb) hb hrw hr (Nat.le_of_eq (size_setRow w _ _).symm) rfl rfl rfl hsame⟩
        · simp only [List.size_toArray, List.length_append, List.length_take, List.length_drop, Array.length_toList]; omega
        · rw [← hcl, List.toList_toArray, list_relay _ _ _ _ _ (by omega) (by simp; omega)]
          refine VRelL.append (VRelL.append (h4.take off) hv) ?_
          rw [hul]
          exact h4.drop _
      · cases hw
    · cases hw
  · cases hw

end Go.Rx
