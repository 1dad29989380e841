/-
  Rx3: maps: what their operations do.
-/
import Derived.Test.YtophpmdlgphihapRxG
import Derived.Maps.RangeRun
namespace Go.Rx
set_option linter.unusedVariables false
set_option linter.unusedSimpArgs false

/-- a new object -/
theorem HRel.newo1 {ι : Nat → Option Ref} {H : Heap} {w : World} (h : HRel ι H w) (D : Obj) (x : OB) (ht : OBRel (Ref.with ι H.size ⟨w.heap.size, 0, 0⟩) (w.alloc D) x ⟨w.heap.size, 0, 0⟩) :
    HRel (Ref.with ι H.size ⟨w.heap.size, 0, 0⟩) (H.newo x) (w.alloc D) ∧ HExt ι H w (Ref.with ι H.size ⟨w.heap.size, 0, 0⟩) (H.newo x) (w.alloc D) := by
  have hn := h.fresh H.size (Nat.le_refl _)
  have hle := Ref.le_with (ι := ι) ⟨w.heap.size, 0, 0⟩ hn
  have hold : ∀ k, k < w.heap.size → (w.alloc D).heap[k]? = w.heap[k]? := fun k hk => by
    show (w.heap.push D)[k]? = _
    rw [Array.getElem?_push, if_neg (by omega)]
  have old : ∀ i p r, H.ob i = some p → Ref.with ι H.size ⟨w.heap.size, 0, 0⟩ i = some r → ι i = some r := by
    intro i p r hp hr
    obtain ⟨r1, h1, _⟩ := h.obs i p hp
    rw [hle _ _ h1] at hr; injection hr with e; rw [← e]; exact h1
  refine ⟨⟨fun i hi => ?_, fun i b hb => ?_, fun i b r i' b' r' h1 h2 h3 h4 h5 h6 => ?_, fun i p hp => ?_, fun i p r i' p' r' h1 h2 h3 h4 h5 => ?_, h.gl.le hle⟩, ⟨hle, by simp [Heap.newo], by simp, rfl, rfl, rfl, fun k hk _ _ => hold k hk, fun i b r h1 h2 h3 => ?_, fun i p r h1 h2 => ?_⟩⟩
  · simp only [Heap.newo] at hi
    unfold Ref.with
    rw [if_neg (by omega)]; exact h.fresh i (by omega)
  · obtain ⟨r, h1, h2⟩ := h.blk i b hb
    refine ⟨r, hle _ _ h1, ?_⟩
    rcases h2.lt with hlt | hnil
    · exact (h2.mono hle).keep (hold _ hlt)
    · unfold BlkRel at h2 ⊢
      cases hrw : b.rw with
      | true =>
        rw [hrw] at h2
        obtain ⟨c', e', k1, k2⟩ := h2
        rw [hold _ (Array.getElem?_eq_some_iff.1 k1).1]
        exact ⟨c', e', k1, k2.1, k2.2.1, VRelL.mono hle _ _ k2.2.2⟩
      | false => intro j a ha; rw [hnil] at ha; simp at ha
  · have g : ∀ j bj rj, H.get j = some bj → Ref.with ι H.size ⟨w.heap.size, 0, 0⟩ j = some rj → ι j = some rj := by
      intro j bj rj hj hr
      obtain ⟨r1, k1, _⟩ := h.blk j bj hj
      rw [hle _ _ k1] at hr; injection hr with e; rw [← e]; exact k1
    exact h.apart i b r i' b' r' h1 h2 h3 h4 (g i b r h1 h5) (g i' b' r' h2 h6)
  · simp only [Heap.newo] at hp
    split at hp
    · rename_i e
      simp only [Option.some.injEq] at hp; subst hp
      exact ⟨⟨w.heap.size, 0, 0⟩, by simp [Ref.with, e], ht⟩
    · obtain ⟨r, h1, h2⟩ := h.obs i p hp
      exact ⟨r, hle _ _ h1, (h2.mono hle).keep (hold _ (h.ob_lt hp h1))⟩
  · simp only [Heap.newo] at h1 h2
    have key : ∀ j pj rj, (if j = H.size then some x else H.ob j) = some pj → Ref.with ι H.size ⟨w.heap.size, 0, 0⟩ j = some rj → (j = H.size ∧ rj.row = w.heap.size) ∨ (∃ p, H.ob j = some p ∧ ι j = some rj ∧ rj.row < w.heap.size) := by
      intro j pj rj hj hr
      split at hj
      · rename_i e; simp [Ref.with, e] at hr; exact .inl ⟨e, by rw [← hr]⟩
      · exact .inr ⟨pj, hj, old j pj rj hj hr, h.ob_lt hj (old j pj rj hj hr)⟩
    rcases key i p r h1 h3 with ⟨k1, k2⟩ | ⟨q1, k1, k2, k3⟩ <;> rcases key i' p' r' h2 h4 with ⟨m1, m2⟩ | ⟨q2, m1, m2, m3⟩
    · rw [k1, m1]
    · omega
    · omega
    · exact h.oapart i q1 r i' q2 r' k1 m1 k2 m2 h5
  · obtain ⟨r1, k1, _⟩ := h.blk i b h1
    rw [hle _ _ k1] at h3; injection h3 with e
    exact .inr ⟨i, b, r1, h1, h2, k1, by rw [e]⟩
  · simp only [Heap.newo] at h1
    split at h1
    · rename_i e; simp [Ref.with, e] at h2; exact .inl (by rw [← h2]; exact Nat.le_refl _)
    · exact .inr ⟨i, p, r, h1, old i p r h1 h2, rfl⟩

/-- an object is laid anew -/
theorem HRel.setm {ι : Nat → Option Ref} {H : Heap} {w w' : World} (h : HRel ι H w) {id : Nat} {o : OB} {q : Ref} (ho : H.ob id = some o) (hq : ι id = some q) (hsame : ∀ k, k ≠ q.row → w'.heap[k]? = w.heap[k]?) (p : OB)
    (hp : OBRel ι w' p q) : HRel ι (H.seto id (some p)) w' := by
  obtain ⟨q', g1, g2⟩ := h.obs id o ho
  rw [hq] at g1; injection g1 with g1; subst g1
  obtain ⟨x, g3, g4⟩ := g2.row
  have old : ∀ i p', (H.seto id (some p)).ob i = some p' → ∃ p0, H.ob i = some p0 := by
    intro i p' hp'
    simp only [Heap.seto] at hp'
    split at hp'
    · rename_i e; exact ⟨o, by rw [e]; exact ho⟩
    · exact ⟨p', hp'⟩
  refine ⟨h.fresh, fun i b hb => ?_, h.apart, fun i p' hp' => ?_, fun i p r i' p' r' h1 h2 h3 h4 => ?_, h.gl⟩
  · obtain ⟨r, h1, h2⟩ := h.blk i b hb
    refine ⟨r, h1, ?_⟩
    by_cases hr : r.row = q.row
    · unfold BlkRel at h2 ⊢
      split at h2
      · obtain ⟨c, e, k3, _⟩ := h2
        rw [hr, g3] at k3; cases k3; cases g4
      · intro j a ha
        obtain ⟨v, hv, _⟩ := h2 j a ha
        exfalso
        rw [hr] at hv
        cases x <;> simp [isOb] at g4 <;> simp [World.cell?, g3] at hv
    · exact h2.keep (hsame _ hr)
  · simp only [Heap.seto] at hp'
    split at hp'
    · rename_i e
      subst e
      simp only [Option.some.injEq] at hp'; subst hp'
      exact ⟨q, hq, hp⟩
    · rename_i e
      obtain ⟨r, k1, k2⟩ := h.obs i p' hp'
      exact ⟨r, k1, k2.keep (hsame _ (fun hr => e (h.oapart i p' r id o q hp' ho k1 hq hr)))⟩
  · obtain ⟨p0, hp0⟩ := old i p h1
    obtain ⟨p0', hp0'⟩ := old i' p' h2
    exact h.oapart i p0 r i' p0' r' hp0 hp0' h3 h4

theorem HExt.setm {ι : Nat → Option Ref} {H : Heap} {w w' : World} {id : Nat} {o : OB} {q : Ref} (ho : H.ob id = some o) (hq : ι id = some q) (p : OB)
    (hsame : ∀ k, k ≠ q.row → w'.heap[k]? = w.heap[k]?) (hsz : w'.heap.size = w.heap.size) (h1 : w'.os = w.os) (h2 : w'.tape = w.tape) (h3 : w'.output = w.output) : HExt ι H w ι (H.seto id (some p)) w' := by
  refine ⟨Ref.le_refl _, Nat.le_refl _, by rw [hsz]; exact Nat.le_refl _, h1, h2, h3, fun k hk _ hne => hsame k (fun e => hne id o q ho hq e.symm), fun i b r h1 h2 h3 => .inr ⟨i, b, r, h1, h2, h3, rfl⟩, fun i p' r h1 h2 => ?_⟩
  simp only [Heap.seto] at h1
  split at h1
  · rename_i e; subst e
    rw [hq] at h2; injection h2 with h2
    exact .inr ⟨i, o, q, ho, hq, by rw [h2]⟩
  · exact .inr ⟨i, p', r, h1, h2, rfl⟩

/-! ## entries -/

def sameA (st : Bool) : AV → AV → Option Bool
  | .int k a, .int k' b => if st = false ∧ k = k' then some (a == b) else none
  | .str a, .str b => if st = true then some (a == b) else none
  | _, _ => none

def findA (st : Bool) (k : AV) : List ME → Nat → Option (Option (Nat × AV))
  | [], _ => some none
  | e :: es, i => match sameA st k e.key with
    | some true => some (some (i, e.val))
    | some false => findA st k es (i + 1)
    | none => none

theorem MEs.length {ι : Nat → Option Ref} : ∀ {es : List ME} {l : List MapEntry}, MEs ι es l → l.length = es.length
  | [], l, h => by rw [show l = [] from h]; rfl
  | e :: es, l, ⟨v, r, h1, _, _, _, h5⟩ => by rw [h1, List.length_cons, List.length_cons, h5.length]
theorem MEs.get {ι : Nat → Option Ref} : ∀ {es : List ME} {l : List MapEntry}, MEs ι es l → ∀ {i : Nat} {v : MapEntry}, l[i]? = some v → ∃ e, es[i]? = some e ∧ v.born = e.born ∧ VRel ι e.key v.key ∧ VRel ι e.val v.val
  | [], l, h, i, v, hv => by rw [show l = [] from h] at hv; simp at hv
  | e :: es, l, ⟨v0, r, h1, h2, h3, h4, h5⟩, i, v, hv => by
    subst h1
    cases i with
    | zero =>
      simp only [List.getElem?_cons_zero, Option.some.injEq] at hv; subst hv
      exact ⟨e, rfl, h2, h3, h4⟩
    | succ i => exact h5.get (by simpa using hv)
theorem MEs.mem {ι : Nat → Option Ref} {es : List ME} {l : List MapEntry} (h : MEs ι es l) {v : MapEntry} (hv : v ∈ l) : ∃ e ∈ es, v.born = e.born ∧ VRel ι e.key v.key ∧ VRel ι e.val v.val := by
  obtain ⟨i, hi⟩ := List.mem_iff_getElem?.1 hv
  obtain ⟨e, h1, h2⟩ := h.get hi
  exact ⟨e, List.mem_iff_getElem?.2 ⟨i, h1⟩, h2⟩
theorem MEs.mem' {ι : Nat → Option Ref} : ∀ {es : List ME} {l : List MapEntry}, MEs ι es l → ∀ {e : ME}, e ∈ es → ∃ v ∈ l, v.born = e.born ∧ VRel ι e.key v.key ∧ VRel ι e.val v.val
  | [], l, h, e, he => by simp at he
  | e0 :: es, l, ⟨v0, r, h1, h2, h3, h4, h5⟩, e, he => by
    subst h1
    rcases List.mem_cons.1 he with rfl | he
    · exact ⟨v0, by simp, h2, h3, h4⟩
    · obtain ⟨v, g1, g2⟩ := h5.mem' he
      exact ⟨v, by simp [g1], g2⟩
theorem MEs.snoc {ι : Nat → Option Ref} : ∀ {es : List ME} {l : List MapEntry}, MEs ι es l → ∀ {e : ME} {v : MapEntry}, v.born = e.born → VRel ι e.key v.key → VRel ι e.val v.val → MEs ι (es ++ [e]) (l ++ [v])
  | [], l, h, e, v, h1, h2, h3 => by rw [show l = [] from h]; exact ⟨v, [], rfl, h1, h2, h3, rfl⟩
  | e0 :: es, l, ⟨v0, r, g1, g2, g3, g4, g5⟩, e, v, h1, h2, h3 => by
    subst g1
    exact ⟨v0, _, rfl, g2, g3, g4, g5.snoc h1 h2 h3⟩
theorem MEs.erase {ι : Nat → Option Ref} : ∀ {es : List ME} {l : List MapEntry}, MEs ι es l → ∀ (i : Nat), MEs ι (es.eraseIdx i) (l.eraseIdx i)
  | [], l, h, i => by rw [show l = [] from h]; exact rfl
  | e0 :: es, l, ⟨v0, r, g1, g2, g3, g4, g5⟩, i => by
    subst g1
    cases i with
    | zero => exact g5
    | succ i => exact ⟨v0, _, rfl, g2, g3, g4, g5.erase i⟩
theorem MEs.modify {ι : Nat → Option Ref} {k v : AV} {k' v' : Value} (hk : VRel ι k k') (hv : VRel ι v v') : ∀ {es : List ME} {l : List MapEntry}, MEs ι es l → ∀ (i : Nat), MEs ι (es.modify i fun e => ⟨k, v, e.born⟩) (l.modify i fun e => { e with key := k', val := v' })
  | [], l, h, i => by rw [show l = [] from h]; cases i <;> exact rfl
  | e0 :: es, l, ⟨v0, r, g1, g2, g3, g4, g5⟩, i => by
    subst g1
    cases i with
    | zero => exact ⟨_, _, rfl, g2, hk, hv, g5⟩
    | succ i => exact ⟨v0, _, rfl, g2, g3, g4, g5.modify hk hv i⟩

/-- a map's keys are of one kind -/
def kdOf : Bool → TypeDesc → Prop
  | false, d => ∃ k, d = .int k
  | true, d => d = .string

theorem sameA_rel {ι : Nat → Option Ref} {st : Bool} {d : TypeDesc} (hd : kdOf st d) {a b : AV} {u v : Value} {t : Bool} (h : sameA st a b = some t) (ha : VRel ι a u) (hb : VRel ι b v) : Instr.sameNow d u v = some t ∧ (t = true → u = v) := by
  unfold sameA at h
  split at h
  · split at h
    · rename_i hc
      obtain ⟨rfl, rfl⟩ := hc
      obtain ⟨k0, rfl⟩ := hd
      simp only [VRel] at ha hb
      subst ha; subst hb
      simp only [Option.some.injEq] at h; subst h
      refine ⟨by simp [Instr.sameNow], fun h => ?_⟩
      rw [beq_iff_eq] at h; rw [h]
    · cases h
  · split at h
    · rename_i a b hc
      subst hc
      obtain rfl : d = .string := hd
      simp only [VRel] at ha hb
      subst ha; subst hb
      simp only [Option.some.injEq] at h; subst h
      refine ⟨?_, fun h => ?_⟩
      · simp only [Instr.sameNow, Option.some.injEq]
        rw [Bool.eq_iff_iff, MapKept.bytes_beq, beq_iff_eq]
        constructor
        · intro h
          have := congrArg (fun x : ByteArray => x.data.toList) h
          simpa using this
        · intro h; rw [h]
      · rw [beq_iff_eq] at h; rw [h]
    · cases h
  · cases h

theorem findA_rel {ι : Nat → Option Ref} {st : Bool} {d : TypeDesc} (hd : kdOf st d) {k : AV} {u : Value} (hk : VRel ι k u) : ∀ {es : List ME} {l : List MapEntry}, MEs ι es l → ∀ {i : Nat} {r : Option (Nat × AV)}, findA st k es i = some r →
    (r = none → Instr.findNow d u l i = some none) ∧ ∀ j v, r = some (j, v) → i ≤ j ∧ ∃ e, l[j - i]? = some e ∧ Instr.findNow d u l i = some (some (j, e.val)) ∧ VRel ι v e.val ∧ e.key = u
  | [], l, h, i, r, hr => by
    rw [show l = [] from h]
    simp only [findA, Option.some.injEq] at hr; subst hr
    exact ⟨fun _ => rfl, fun j v h => (by cases h)⟩
  | e0 :: es, l, ⟨v0, r0, g1, g2, g3, g4, g5⟩, i, r, hr => by
    subst g1
    simp only [findA] at hr
    split at hr
    · rename_i hs
      obtain ⟨h1, h2⟩ := sameA_rel hd hs hk g3
      simp only [Option.some.injEq] at hr; subst hr
      refine ⟨fun h => (by cases h), fun j v h => ?_⟩
      simp only [Option.some.injEq, Prod.mk.injEq] at h
      obtain ⟨rfl, rfl⟩ := h
      exact ⟨Nat.le_refl _, v0, by simp, by simp only [Instr.findNow, h1], g4, (h2 rfl).symm⟩
    · rename_i hs
      obtain ⟨h1, h2⟩ := sameA_rel hd hs hk g3
      obtain ⟨k1, k2⟩ := findA_rel hd hk g5 hr
      refine ⟨fun h => (by simp only [Instr.findNow, h1]; exact k1 h), fun j v h => ?_⟩
      obtain ⟨m1, e, m2, m3, m4, m5⟩ := k2 j v h
      refine ⟨by omega, e, ?_, by simp only [Instr.findNow, h1]; exact m3, m4, m5⟩
      rw [show j - i = (j - (i + 1)) + 1 by omega, List.getElem?_cons_succ]; exact m2
    · cases hr

theorem run_checkKey' {P : Program} {w : World} {kt : TypeId} {d : TypeDesc} {st : Bool} (hd : P.underlying kt = some d) (hk : kdOf st d) (e : Bool) (n : Nat) (v : Value) : (Instr.checkKey e (n + 1) kt v).run P w = .ok () w := by
  unfold Instr.checkKey
  simp only [Sem.run_bind, run_underlying hd, Result.andThen]
  cases st with
  | false => obtain ⟨k, rfl⟩ := hk; simp
  | true => obtain rfl : d = .string := hk; simp

theorem cMT_run {P : Program} {t : TypeId} {st : Bool} {e : TypeId} (h : cMT P t = some (st, e)) : ∃ k d, P.underlying t = some (.map k e) ∧ P.underlying k = some d ∧ kdOf st d := by
  unfold cMT at h
  split at h
  · rename_i k e' hu
    split at h
    · rename_i kk hk
      simp only [Option.some.injEq, Prod.mk.injEq] at h
      obtain ⟨rfl, rfl⟩ := h
      exact ⟨k, _, hu, hk, ⟨kk, rfl⟩⟩
    · rename_i hk
      simp only [Option.some.injEq, Prod.mk.injEq] at h
      obtain ⟨rfl, rfl⟩ := h
      exact ⟨k, _, hu, hk, rfl⟩
    · cases h
  · cases h

/-! ## what the operations come to -/

def Heap.mapAt (H : Heap) (v : AV) : Option (Nat × List ME × Nat) :=
  match v with
  | .map id => match H.ob id with
    | some o => match o.mo with
      | some (.map es clock) => some (id, es, clock)
      | _ => none
    | none => none
  | _ => none

def Heap.iterAt (H : Heap) (v : AV) : Option (Nat × Nat × Nat × List Nat × Nat) :=
  match v with
  | .ptr id 0 => match H.ob id with
    | some o => match o.mo with
      | some (.iter m since seen last) => some (id, m, since, seen, last)
      | _ => none
    | none => none
  | _ => none

def mmq (s : St) (q : MQ) (k : AV → Heap → Prop) : Prop :=
  match q with
  | .mk => s.H.get s.H.size = none → s.H.ob s.H.size = none → k (.map s.H.size) (s.H.newo (obM (.map [] 0)))
  | .lk x i ok st z => match s.H.mapAt (x.ev s.τ) with
    | some (_, es, _) => match findA st (i.ev s.τ) es 0 with
      | some (some (_, v)) => k (if ok = true then .tuple [v, .bool true] else v) s.H
      | some none => k (if ok = true then .tuple [z, .bool false] else z) s.H
      | none => False
    | none => False
  | .up x i v st => match s.H.mapAt (x.ev s.τ) with
    | some (id, es, clock) => match findA st (i.ev s.τ) es 0 with
      | some (some (j, _)) => k (.tuple []) (s.H.seto id (some (obM (.map (es.modify j fun e => ⟨i.ev s.τ, v.ev s.τ, e.born⟩) clock))))
      | some none => k (.tuple []) (s.H.seto id (some (obM (.map (es ++ [⟨i.ev s.τ, v.ev s.τ, clock⟩]) (clock + 1)))))
      | none => False
    | none => False
  | .dl x i st => match s.H.mapAt (x.ev s.τ) with
    | some (id, es, clock) => match findA st (i.ev s.τ) es 0 with
      | some (some (j, _)) => k (.tuple []) (s.H.seto id (some (obM (.map (es.eraseIdx j) clock))))
      | some none => k (.tuple []) s.H
      | none => False
    | none => False
  | .rg x => match s.H.mapAt (x.ev s.τ) with
    | some (id, es, clock) => s.H.get s.H.size = none → s.H.ob s.H.size = none → k (.ptr s.H.size 0) (s.H.newo (obM (.iter id clock [] clock)))
    | none => False
  | .nx x => match s.H.iterAt (x.ev s.τ) with
    | some (id, m, since, seen, last) => match s.H.mapAt (.map m) with
      | some (_, es, clock) => (∀ e ∈ es, e.born < since) ∧ since ≤ last ∧ ((∀ e ∈ es, e.born ∈ seen) → k (.tuple [.bool false]) s.H) ∧
          ∀ e ∈ es, e.born ∉ seen → k (.tuple [.bool true, e.key, e.val]) (s.H.seto id (some (obM (.iter m since (seen ++ [e.born]) clock))))
      | none => False
    | none => False
  | .en x => match s.H.iterAt (x.ev s.τ) with
    | some (id, m, since, seen, last) => match s.H.mapAt (.map m) with
      | some (_, es, clock) => match seen.getLast? with
        | some b => clock = last ∧ (match es.find? (fun e => e.born == b) with | some e => k (.tuple [e.key, e.val]) s.H | none => False)
        | none => False
      | none => False
    | none => False

theorem mapAt_some {H : Heap} {v : AV} {id : Nat} {es : List ME} {clock : Nat} (h : H.mapAt v = some (id, es, clock)) : v = .map id ∧ ∃ o, H.ob id = some o ∧ o.mo = some (.map es clock) := by
  unfold Heap.mapAt at h
  split at h
  · split at h
    · rename_i o ho
      split at h
      · rename_i hm
        simp only [Option.some.injEq, Prod.mk.injEq] at h
        obtain ⟨rfl, rfl, rfl⟩ := h
        exact ⟨rfl, o, ho, hm⟩
      · cases h
    · cases h
  · cases h

theorem iterAt_some {H : Heap} {v : AV} {id m since last : Nat} {seen : List Nat} (h : H.iterAt v = some (id, m, since, seen, last)) : v = .ptr id 0 ∧ ∃ o, H.ob id = some o ∧ o.mo = some (.iter m since seen last) := by
  unfold Heap.iterAt at h
  split at h
  · split at h
    · rename_i o ho
      split at h
      · rename_i hm
        simp only [Option.some.injEq, Prod.mk.injEq] at h
        obtain ⟨rfl, rfl, rfl, rfl, rfl⟩ := h
        exact ⟨rfl, o, ho, hm⟩
      · cases h
    · cases h
  · cases h

theorem HRel.mapAt {ι : Nat → Option Ref} {H : Heap} {w : World} (h : HRel ι H w) {v : AV} {id : Nat} {es : List ME} {clock : Nat} (hm : H.mapAt v = some (id, es, clock)) :
    ∃ o r vs, H.ob id = some o ∧ ι id = some r ∧ w.heap[r.row]? = some (.map vs clock) ∧ MEs ι es vs.toList ∧ ∀ u, VRel ι v u → u = .map (some r.row) := by
  obtain ⟨rfl, o, ho, hmo⟩ := mapAt_some hm
  obtain ⟨r, h1, h2⟩ := h.obs id o ho
  obtain ⟨vs, h3, h4⟩ := h2.mo hmo
  refine ⟨o, r, vs, ho, h1, h3, h4, fun u hu => ?_⟩
  simp only [VRel] at hu
  obtain ⟨r', k1, k2⟩ := hu
  rw [h1] at k1; injection k1 with k1; subst k1
  exact k2

theorem HRel.iterAt {ι : Nat → Option Ref} {H : Heap} {w : World} (h : HRel ι H w) {v : AV} {id m since last : Nat} {seen : List Nat} (hm : H.iterAt v = some (id, m, since, seen, last)) :
    ∃ o r q, H.ob id = some o ∧ ι id = some r ∧ r.off = 0 ∧ ι m = some q ∧ w.heap[r.row]? = some (.mapIter (some q.row) since seen.toArray last) ∧ ∀ u, VRel ι v u → u = .pointer (some ⟨r.row, 0, none⟩) := by
  obtain ⟨rfl, o, ho, hmo⟩ := iterAt_some hm
  obtain ⟨r, h1, h2⟩ := h.obs id o ho
  obtain ⟨h0, q, h3, h4⟩ := h2.mo hmo
  refine ⟨o, r, q, ho, h1, h0, h3, h4, fun u hu => ?_⟩
  simp only [VRel] at hu
  obtain ⟨r', k1, k2⟩ := hu
  rw [h1] at k1; injection k1 with k1; subst k1
  rw [k2, h0]

theorem undef_rel' (ι : Nat → Option Ref) : VRel ι (.tuple []) undef := by simp [VRel, VRelL, undef]

/-- what an operation of maps comes to -/
def MDone (P : Program) (o : Oper) (a : Act) (ι : Nat → Option Ref) (s : St) (w : World) (k : AV → Heap → Prop) : Prop :=
  ∃ v H' x w' ι', ((execOp a.eval o).run P w = .ok (.value x) w' ∨ ((execOp a.eval o).run P w = .ok .skip w' ∧ x = undef)) ∧ k v H' ∧ VRel ι' v x ∧ HRel ι' H' w' ∧ HExt ι s.H w ι' H' w'

section
variable {P : Program} {o : Oper} {a : Act} {ι : Nat → Option Ref} {s : St} {w : World} {k : AV → Heap → Prop}

theorem mq_mk (hh : HRel ι s.H w) {t : TypeId} (ho : o.op = .makeMap t none) (h : mmq s .mk k) : MDone P o a ι s w k := by
  have hn := hh.fresh s.H.size (Nat.le_refl _)
  have h1 : s.H.get s.H.size = none := by
    cases hg : s.H.get s.H.size with
    | none => rfl
    | some b => obtain ⟨r, hr, _⟩ := hh.blk _ b hg; rw [hn] at hr; cases hr
  have h2 : s.H.ob s.H.size = none := by
    cases hg : s.H.ob s.H.size with
    | none => rfl
    | some b => obtain ⟨r, hr, _⟩ := hh.obs _ b hg; rw [hn] at hr; cases hr
  have hrow : (w.alloc (.map #[] 0)).heap[w.heap.size]? = some (.map #[] 0) := heap_alloc_new w _
  obtain ⟨g1, g2⟩ := hh.newo1 (.map #[] 0) (obM (.map [] 0)) ⟨#[], hrow, rfl⟩
  refine ⟨_, _, .map (some w.heap.size), _, _, .inl ?_, h h1 h2, ?_, g1, g2⟩
  · simp [execOp, ho, Instr.makeMap]
  · simp only [VRel]; exact ⟨⟨w.heap.size, 0, 0⟩, by simp [Ref.with], rfl⟩

theorem mq_rg (ht : TRel ι s.τ a.tmps) (hh : HRel ι s.H w) {t : TypeId} {x : Operand} {mx : MX} {st : Bool} {e : TypeId} (ho : o.op = .range t x) (hT : cMT P t = some (st, e)) (hx : cX x = some mx) (h : mmq s (.rg mx) k) : MDone P o a ι s w k := by
  have hn := hh.fresh s.H.size (Nat.le_refl _)
  have h1 : s.H.get s.H.size = none := by
    cases hg : s.H.get s.H.size with
    | none => rfl
    | some b => obtain ⟨r, hr, _⟩ := hh.blk _ b hg; rw [hn] at hr; cases hr
  have h2 : s.H.ob s.H.size = none := by
    cases hg : s.H.ob s.H.size with
    | none => rfl
    | some b => obtain ⟨r, hr, _⟩ := hh.obs _ b hg; rw [hn] at hr; cases hr
  simp only [mmq] at h
  split at h
  rotate_left
  · exact h.elim
  rename_i id es clock hm
  obtain ⟨o', r, vs, g1, g2, g3, g4, g5⟩ := hh.mapAt hm
  obtain ⟨kt, d, u1, u2, u3⟩ := cMT_run hT
  have hv := g5 _ (ev_rel ht hx)
  have hle := Ref.le_with (ι := ι) ⟨w.heap.size, 0, 0⟩ hn
  have hrow : (w.alloc (.mapIter (some r.row) clock #[] clock)).heap[w.heap.size]? = some (.mapIter (some r.row) clock #[] clock) := heap_alloc_new w _
  obtain ⟨k1, k2⟩ := hh.newo1 (.mapIter (some r.row) clock #[] clock) (obM (.iter id clock [] clock)) ⟨rfl, r, hle _ _ g2, hrow⟩
  refine ⟨_, _, .pointer (some ⟨w.heap.size, 0, none⟩), _, _, .inl ?_, h h1 h2, ?_, k1, k2⟩
  · simp only [execOp, ho, hv, Sem.run_bind, run_range_map w t kt e r.row vs clock u1 g3, Result.andThen_ok, Sem.run_pure]
  · simp only [VRel]; exact ⟨⟨w.heap.size, 0, 0⟩, by simp [Ref.with], rfl⟩

theorem mq_lk (ht : TRel ι s.τ a.tmps) (hh : HRel ι s.H w) {t : TypeId} {x i : Operand} {mx mi : MX} {st ok : Bool} {e : TypeId} {inf : TypeInfo} {zv : Value} {z : AV} (ho : o.op = .lookup t x i ok) (hT : cMT P t = some (st, e)) (hx : cX x = some mx) (hi : cX i = some mi)
    (hinf : P.info? e = some inf) (hz : inf.zero = some zv) (hzv : ofVal zv = some z) (h : mmq s (.lk mx mi ok st z) k) : MDone P o a ι s w k := by
  simp only [mmq] at h
  split at h
  rotate_left
  · exact h.elim
  rename_i id es clock hm
  obtain ⟨o', r, vs, g1, g2, g3, g4, g5⟩ := hh.mapAt hm
  obtain ⟨kt, d, u1, u2, u3⟩ := cMT_run hT
  have hv := g5 _ (ev_rel ht hx)
  have hk := ev_rel ht hi
  have hzr : VRel ι z zv := ofVal_rel hzv
  have hzero : (zeroValue e).run P w = .ok zv w := by simp [zeroValue, typeInfo, hinf, hz]
  have run : ∀ (rr : Option (Nat × Value)) (u : Value) (b : Bool), Instr.findNow d (a.eval i) vs.toList 0 = some rr → (match rr with | some (_, v) => v = u ∧ b = true | none => zv = u ∧ b = false) →
      (execOp a.eval o).run P w = .ok (.value (if ok = true then .tuple #[u, .bool b] else u)) w := by
    intro rr u b hf hrr
    have hf' := MapKept.run_findKey (w := w) u2 hf
    have hck := run_checkKey' (w := w) (P := P) u2 u3 vs.isEmpty 9999 (a.eval i)
    cases rr with
    | none =>
      obtain ⟨rfl, rfl⟩ := hrr
      simp only [execOp, ho, hv, Instr.lookup, Sem.run_bind, run_underlying u1, Result.andThen_ok, MapKept.run_getObj_map g3, Sem.run_pure, hck, hf', hzero]
    | some q =>
      obtain ⟨j, v⟩ := q
      obtain ⟨rfl, rfl⟩ := hrr
      simp only [execOp, ho, hv, Instr.lookup, Sem.run_bind, run_underlying u1, Result.andThen_ok, MapKept.run_getObj_map g3, Sem.run_pure, hck, hf']
  split at h
  · rename_i j v hf
    obtain ⟨_, f2⟩ := findA_rel u3 hk g4 hf
    obtain ⟨_, e', _, f3, f4, _⟩ := f2 j v rfl
    refine ⟨_, _, _, _, ι, .inl (run _ e'.val true f3 ⟨rfl, rfl⟩), h, ?_, hh, HExt.refl _ _ _⟩
    cases ok
    · exact f4
    · simp only [if_true, VRel, VRelL]; exact ⟨_, rfl, _, _, rfl, f4, _, _, rfl, rfl, rfl⟩
  · rename_i hf
    obtain ⟨f1, _⟩ := findA_rel u3 hk g4 hf
    refine ⟨_, _, _, _, ι, .inl (run _ zv false (f1 rfl) ⟨rfl, rfl⟩), h, ?_, hh, HExt.refl _ _ _⟩
    cases ok
    · exact hzr
    · simp only [if_true, VRel, VRelL]; exact ⟨_, rfl, _, _, rfl, hzr, _, _, rfl, rfl, rfl⟩
  · exact h.elim

/-- an object laid anew, where it lies -/
theorem set_obj {id : Nat} {o' : OB} {r : Ref} (hh : HRel ι s.H w) (g1 : s.H.ob id = some o') (g2 : ι id = some r) {x0 : Obj} (g3 : w.heap[r.row]? = some x0) {w1 : World} (e1 : w1.heap = w.heap) (e2 : w1.os = w.os) (e3 : w1.tape = w.tape) (e4 : w1.output = w.output) (x : Obj) (p : OB)
    (hp : ∀ w', w'.heap[r.row]? = some x → OBRel ι w' p r) : HRel ι (s.H.seto id (some p)) { w1 with heap := w1.heap.setIfInBounds r.row x } ∧ HExt ι s.H w ι (s.H.seto id (some p)) { w1 with heap := w1.heap.setIfInBounds r.row x } := by
  obtain ⟨h1, h2⟩ := MapKept.heap_set (o' := x) g3
  have hs : ∀ k, k ≠ r.row → ({ w1 with heap := w1.heap.setIfInBounds r.row x } : World).heap[k]? = w.heap[k]? := fun k hk => by rw [show ({ w1 with heap := w1.heap.setIfInBounds r.row x } : World).heap = w.heap.setIfInBounds r.row x by rw [e1]]; exact h2 k hk
  refine ⟨hh.setm g1 g2 hs p (hp _ (by rw [show ({ w1 with heap := w1.heap.setIfInBounds r.row x } : World).heap = w.heap.setIfInBounds r.row x by rw [e1]]; exact h1)), HExt.setm g1 g2 p hs (by simp [e1]) e2 e3 e4⟩

theorem sameBits_self {st : Bool} {d : TypeDesc} (hd : kdOf st d) {a b : AV} {u : Value} {t : Bool} (h : sameA st a b = some t) (ha : VRel ι a u) : Instr.sameBits 10000 u u = true := by
  unfold sameA at h
  split at h
  · simp only [VRel] at ha; subst ha
    simp [Instr.sameBits]
  · simp only [VRel] at ha; subst ha
    simp only [Instr.sameBits]
    rw [MapKept.bytes_beq]
  · cases h
theorem findA_same {st : Bool} {k : AV} : ∀ {es : List ME} {i j : Nat} {v : AV}, findA st k es i = some (some (j, v)) → ∃ b, sameA st k b = some true
  | [], i, j, v, h => by simp [findA] at h
  | e :: es, i, j, v, h => by
    simp only [findA] at h
    split at h
    · rename_i hs; exact ⟨_, hs⟩
    · exact findA_same h
    · cases h

theorem mq_up (ht : TRel ι s.τ a.tmps) (hh : HRel ι s.H w) {t : TypeId} {x i v : Operand} {mx mi mv : MX} {st : Bool} {e : TypeId} (ho : o.op = .mapUpdate t x i v ∨ o.op = .insert t x i v) (hT : cMT P t = some (st, e)) (hx : cX x = some mx) (hi : cX i = some mi) (hv' : cX v = some mv)
    (h : mmq s (.up mx mi mv st) k) : MDone P o a ι s w k := by
  simp only [mmq] at h
  split at h
  rotate_left
  · exact h.elim
  rename_i id es clock hm
  obtain ⟨o', r, vs, g1, g2, g3, g4, g5⟩ := hh.mapAt hm
  obtain ⟨kt, d, u1, u2, u3⟩ := cMT_run hT
  have hv := g5 _ (ev_rel ht hx)
  have hk := ev_rel ht hi
  have hw := ev_rel ht hv'
  have hck := run_checkKey' (w := w) (P := P) u2 u3 false 9999 (a.eval i)
  have hexec : execOp a.eval o = (do Instr.mapUpdate t (a.eval x) (a.eval i) (a.eval v); pure .skip) := by
    rcases ho with ho | ho <;> simp only [execOp, ho]
  split at h
  · rename_i j v0 hf
    obtain ⟨_, f2⟩ := findA_rel u3 hk g4 hf
    obtain ⟨_, e', f0, f3, f4, f5⟩ := f2 j v0 rfl
    have hf' := MapKept.run_findKey (w := w) u2 f3
    obtain ⟨b0, hb0⟩ := findA_same hf
    have hold : ((vs[j]?).map (·.key)).getD (a.eval i) = a.eval i := by
      rw [Nat.sub_zero, Array.getElem?_toList] at f0
      rw [f0]; exact f5
    have hstay : (Instr.keyThatStays (a.eval i) (a.eval i)).run P w = .ok (a.eval i) w := by
      unfold Instr.keyThatStays
      rw [if_pos (sameBits_self u3 hb0 hk)]; rfl
    have hset := MapKept.run_setObj_map (P := P) (.map (vs.modify j fun e => { e with key := a.eval i, val := a.eval v }) clock) g3
    obtain ⟨k1, k2⟩ := set_obj hh g1 g2 g3 (w1 := w) rfl rfl rfl rfl (.map (vs.modify j fun e => { e with key := a.eval i, val := a.eval v }) clock) (obM (.map (es.modify j fun e => ⟨mi.ev s.τ, mv.ev s.τ, e.born⟩) clock)) (fun w' hw' => ⟨_, hw', by rw [Array.toList_modify]; exact g4.modify hk hw j⟩)
    refine ⟨_, _, undef, _, ι, .inr ⟨?_, rfl⟩, h, undef_rel' ι, k1, k2⟩
    rw [hexec]
    simp only [hv, Instr.mapUpdate, Sem.run_bind, run_underlying u1, Result.andThen_ok, MapKept.run_getObj_map g3, hck, hf', hold, hstay, hset, Sem.run_pure]
  · rename_i hf
    obtain ⟨f1, _⟩ := findA_rel u3 hk g4 hf
    have hf' := MapKept.run_findKey (w := w) u2 (f1 rfl)
    have hset := MapKept.run_setObj_map (P := P) (.map (vs.push { key := a.eval i, val := a.eval v, born := clock }) (clock + 1)) g3
    obtain ⟨k1, k2⟩ := set_obj hh g1 g2 g3 (w1 := w) rfl rfl rfl rfl (.map (vs.push { key := a.eval i, val := a.eval v, born := clock }) (clock + 1)) (obM (.map (es ++ [⟨mi.ev s.τ, mv.ev s.τ, clock⟩]) (clock + 1))) (fun w' hw' => ⟨_, hw', by rw [Array.toList_push]; exact g4.snoc rfl hk hw⟩)
    refine ⟨_, _, undef, _, ι, .inr ⟨?_, rfl⟩, h, undef_rel' ι, k1, k2⟩
    rw [hexec]
    simp only [hv, Instr.mapUpdate, Sem.run_bind, run_underlying u1, Result.andThen_ok, MapKept.run_getObj_map g3, hck, hf', hset, Sem.run_pure]
  · exact h.elim

theorem mq_dl (ht : TRel ι s.τ a.tmps) (hh : HRel ι s.H w) {c : Call} {t : TypeId} {ts : List TypeId} {x i : Operand} {mx mi : MX} {st : Bool} {e : TypeId} (ho : o.op = .call c) (hc : c.callee = .builtin .delete) (ha : c.args.toList = [x, i]) (hta : c.argTypes.toList = t :: ts) (hT : cMT P t = some (st, e)) (hx : cX x = some mx) (hi : cX i = some mi)
    (h : mmq s (.dl mx mi st) k) : MDone P o a ι s w k := by
  simp only [mmq] at h
  split at h
  rotate_left
  · exact h.elim
  rename_i id es clock hm
  obtain ⟨o', r, vs, g1, g2, g3, g4, g5⟩ := hh.mapAt hm
  obtain ⟨kt, d, u1, u2, u3⟩ := cMT_run hT
  have hv := g5 _ (ev_rel ht hx)
  have hk := ev_rel ht hi
  have ha' : c.args = #[x, i] := by apply Array.ext'; simpa using ha
  have ht0 : c.argTypes[0]? = some t := by rw [← Array.getElem?_toList, hta]; rfl
  have hck := run_checkKey' (w := w) (P := P) u2 u3 vs.isEmpty 9999 (a.eval i)
  have run : ∀ (rr : Option (Nat × Value)) (x' : Obj), Instr.findNow d (a.eval i) vs.toList 0 = some rr → x' = .map (match rr with | some (j, _) => vs.eraseIdxIfInBounds j | none => vs) clock →
      (execOp a.eval o).run P w = .ok (.value (.tuple #[])) { w with heap := w.heap.setIfInBounds r.row x' } := by
    intro rr x' hf hx'
    have hf' := MapKept.run_findKey (w := w) u2 hf
    have hset := MapKept.run_setObj_map (P := P) x' g3
    subst hx'
    cases rr with
    | none => simp only [execOp, ho, resolve, hc, ha', List.map_toArray, List.map_cons, List.map_nil, hv, Sem.run_bind, Sem.run_pure, Result.andThen_ok, invoke, builtin, Builtin.delete_, ht0, List.getElem?_toArray, List.getElem?_cons_zero, List.getElem?_cons_succ, run_underlying u1, MapKept.run_getObj_map g3, hck, hf', hset]
    | some q =>
      obtain ⟨j, v⟩ := q
      simp only [execOp, ho, resolve, hc, ha', List.map_toArray, List.map_cons, List.map_nil, hv, Sem.run_bind, Sem.run_pure, Result.andThen_ok, invoke, builtin, Builtin.delete_, ht0, List.getElem?_toArray, List.getElem?_cons_zero, List.getElem?_cons_succ, run_underlying u1, MapKept.run_getObj_map g3, hck, hf', hset]
  split at h
  · rename_i j v hf
    obtain ⟨_, f2⟩ := findA_rel u3 hk g4 hf
    obtain ⟨_, e', f0, f3, f4, f5⟩ := f2 j v rfl
    rw [Nat.sub_zero] at f0
    have hj : j < vs.size := by rw [← Array.length_toList]; exact (List.getElem?_eq_some_iff.1 f0).1
    obtain ⟨k1, k2⟩ := set_obj hh g1 g2 g3 (w1 := w) rfl rfl rfl rfl (.map (vs.eraseIdxIfInBounds j) clock) (obM (.map (es.eraseIdx j) clock)) (fun w' hw' => ⟨_, hw', by
      unfold Array.eraseIdxIfInBounds
      rw [dif_pos hj, Array.toList_eraseIdx]
      exact g4.erase j⟩)
    exact ⟨_, _, _, _, ι, .inl (run _ _ f3 rfl), h, by simp [VRel, VRelL], k1, k2⟩
  · rename_i hf
    obtain ⟨f1, _⟩ := findA_rel u3 hk g4 hf
    refine ⟨_, _, _, _, ι, .inl (run _ _ (f1 rfl) rfl), h, by simp [VRel, VRelL], ?_, ?_⟩
    all_goals
      have e0 : ({ w with heap := w.heap.setIfInBounds r.row (.map vs clock) } : World) = w := by
        have : w.heap.setIfInBounds r.row (.map vs clock) = w.heap := by
          apply Array.ext_getElem?
          intro i
          by_cases hi : i = r.row
          · subst hi; rw [(MapKept.heap_set g3).1, g3]
          · rw [(MapKept.heap_set g3).2 i hi]
        rw [this]
      simp only [e0]
    · exact hh
    · exact HExt.refl _ _ _
  · exact h.elim

theorem MEs.find {ι : Nat → Option Ref} {b : Nat} : ∀ {es : List ME} {l : List MapEntry}, MEs ι es l → ∀ {e : ME}, es.find? (fun e => e.born == b) = some e → ∃ v, l.find? (fun v => v.born == b) = some v ∧ v.born = e.born ∧ VRel ι e.key v.key ∧ VRel ι e.val v.val
  | [], l, h, e, he => by simp at he
  | e0 :: es, l, ⟨v0, r, h1, h2, h3, h4, h5⟩, e, he => by
    subst h1
    rw [List.find?_cons] at he ⊢
    rw [h2]
    split at he
    · rename_i hb
      simp only [Option.some.injEq] at he; subst he
      exact ⟨v0, rfl, h2, h3, h4⟩
    · exact h5.find he

theorem mq_en (ht : TRel ι s.τ a.tmps) (hh : HRel ι s.H w) {x : Operand} {mx : MX} (ho : o.op = .entry x) (hx : cX x = some mx) (h : mmq s (.en mx) k) : MDone P o a ι s w k := by
  simp only [mmq] at h
  split at h
  rotate_left
  · exact h.elim
  rename_i id m since seen last hi
  split at h
  rotate_left
  · exact h.elim
  rename_i id' es clock hm
  split at h
  rotate_left
  · exact h.elim
  rename_i b hb
  obtain ⟨rfl, h⟩ := h
  split at h
  rotate_left
  · exact h.elim
  rename_i e he
  obtain ⟨o1, r1, q, f1, f2, f3, f4, f5, f6⟩ := hh.iterAt hi
  obtain ⟨o', r, vs, g1, g2, g3, g4, g5⟩ := hh.mapAt hm
  obtain ⟨e1, _⟩ := mapAt_some hm
  injection e1 with e1; subst e1
  rw [f4] at g2; injection g2 with g2; subst g2
  have hv := f6 _ (ev_rel ht hx)
  obtain ⟨v, k1, k2, k3, k4⟩ := g4.find he
  have hfind : vs.find? (fun v => v.born == b) = some v := by rw [← Array.find?_toList]; exact k1
  have hback : seen.toArray.back? = some b := by rw [List.back?_toArray]; exact hb
  refine ⟨_, _, .tuple #[v.key, v.val], w, ι, .inl ?_, h, ?_, hh, HExt.refl _ _ _⟩
  · simp only [execOp, ho, hv, Instr.entry, getObj, Sem.run_bind, Sem.run, f5, g3, Result.andThen_ok, hback, bne_self_eq_false, Bool.false_eq_true, if_false, hfind]
    rfl
  · simp only [VRel, VRelL]; exact ⟨_, rfl, _, _, rfl, k3, _, _, rfl, k4, rfl⟩

theorem mq_nx (ht : TRel ι s.τ a.tmps) (hh : HRel ι s.H w) {x : Operand} {mx : MX} (ho : o.op = .next x false) (hx : cX x = some mx) (h : mmq s (.nx mx) k) : MDone P o a ι s w k := by
  simp only [mmq] at h
  split at h
  rotate_left
  · exact h.elim
  rename_i id m since seen last hi
  split at h
  rotate_left
  · exact h.elim
  rename_i id' es clock hm
  obtain ⟨h1, h2, h3, h4⟩ := h
  obtain ⟨o1, r1, q, f1, f2, f3, f4, f5, f6⟩ := hh.iterAt hi
  obtain ⟨o', r, vs, g1, g2, g3, g4, g5⟩ := hh.mapAt hm
  obtain ⟨e1, _⟩ := mapAt_some hm
  injection e1 with e1; subst e1
  rw [f4] at g2; injection g2 with g2; subst g2
  have hv := f6 _ (ev_rel ht hx)
  have hold : ∀ x ∈ vs.toList, x.born < since := fun v hv => by
    obtain ⟨e, he, hb, _⟩ := g4.mem hv
    rw [hb]; exact h1 e he
  have hin : ∀ v : MapEntry, v ∈ vs.toList → (v ∈ (leftOf vs seen.toArray).toList ↔ v.born ∉ seen) := fun v hv => by
    unfold leftOf
    simp only [Array.toList_filter, List.mem_filter, hv, true_and]
    simp
  rcases run_next_at (P := P) w o.type r1.row q.row since last seen.toArray vs clock f5 g3 hold h2 with ⟨k1, k2⟩ | ⟨v, hvm, w1, hw1, k2⟩
  · refine ⟨_, _, .tuple #[.bool false], w, ι, .inl ?_, h3 (fun e he => ?_), ?_, hh, HExt.refl _ _ _⟩
    · simp only [execOp, ho, hv, Sem.run_bind, k2, Result.andThen_ok, Sem.run_pure]
    · obtain ⟨v, hv1, hv2, _⟩ := g4.mem' he
      rw [← hv2]
      by_cases hs : v.born ∈ seen
      · exact hs
      · have := (hin v hv1).2 hs
        rw [List.eq_nil_of_length_eq_zero (l := (leftOf vs seen.toArray).toList) (by rw [Array.length_toList]; exact k1)] at this
        simp at this
    · simp [VRel, VRelL]
  · have hvl : v ∈ vs.toList := by
      unfold leftOf at hvm
      rw [Array.toList_filter] at hvm
      exact (List.mem_filter.1 hvm).1
    obtain ⟨e, he, hb, hek, hev⟩ := g4.mem hvl
    have hns : e.born ∉ seen := by rw [← hb]; exact (hin v hvl).1 hvm
    have hw1e : w1.heap = w.heap ∧ w1.os = w.os ∧ w1.tape = w.tape ∧ w1.output = w.output := by rcases hw1 with rfl | rfl <;> exact ⟨rfl, rfl, rfl, rfl⟩
    obtain ⟨m1, m2⟩ := set_obj hh f1 f2 f5 hw1e.1 hw1e.2.1 hw1e.2.2.1 hw1e.2.2.2 (.mapIter (some q.row) since (seen.toArray.push v.born) clock) (obM (.iter m since (seen ++ [e.born]) clock)) (fun w' hw' => ⟨f3, q, f4, by rw [hw', hb]; simp⟩)
    refine ⟨_, _, .tuple #[.bool true, v.key, v.val], _, ι, .inl ?_, h4 e he hns, ?_, m1, m2⟩
    · simp only [execOp, ho, hv, Sem.run_bind, k2, Result.andThen_ok, Sem.run_pure]
      rfl
    · simp only [VRel, VRelL]; exact ⟨_, rfl, _, _, rfl, rfl, _, _, rfl, hek, _, _, rfl, hev, rfl⟩

theorem mq_sound (ht : TRel ι s.τ a.tmps) (hh : HRel ι s.H w) {q : MQ} (hc : cOp P o = some (.mq q)) (h : mmq s q k) : MDone P o a ι s w k := by
  have key : cMq P o = some q ∨ ∃ c, o.op = .call c ∧ c.callee = .builtin .delete ∧ cMd P c = some q := by
    cases ho : o.op with
    | call c =>
      simp only [cOp, ho] at hc
      split at hc
      all_goals first
        | (exfalso; (repeat' split at hc); all_goals (first | (cases hc; done) | (rw [Option.map_eq_some_iff] at hc; obtain ⟨_, _, hc⟩ := hc; cases hc; done)); done)
        | skip
      rename_i hcal
      simp only [Option.map_eq_some_iff, MOp.mq.injEq] at hc
      obtain ⟨q', h1, rfl⟩ := hc
      exact .inr ⟨c, rfl, hcal, h1⟩
    | makeFunc f first cs =>
      exfalso
      simp only [cOp, ho] at hc
      cases f <;> simp only [reduceCtorEq] at hc <;> (repeat' split at hc) <;> first | (cases hc; done) | (rw [Option.map_eq_some_iff] at hc; obtain ⟨_, _, hc⟩ := hc; cases hc; done)
    | _ =>
      simp only [cOp, ho] at hc
      first
        | (simp only [Option.map_eq_some_iff, MOp.mq.injEq] at hc; obtain ⟨q', h1, rfl⟩ := hc; exact .inl h1)
        | (exfalso; (repeat' split at hc); all_goals (first | (cases hc; done) | (rw [Option.map_eq_some_iff] at hc; obtain ⟨_, _, hc⟩ := hc; cases hc; done)); done)
  rcases key with hq | ⟨c, ho, hcal, hq⟩
  · unfold cMq at hq
    split at hq
    · rename_i ho
      simp only [Option.some.injEq] at hq; subst hq
      exact mq_mk hh ho h
    · rename_i t x i ok ho
      split at hq
      · rename_i st e mx mi hT hx hi
        split at hq
        · rename_i inf hinf
          split at hq
          · rename_i zv hz
            rw [Option.map_eq_some_iff] at hq
            obtain ⟨z, hzv, rfl⟩ := hq
            exact mq_lk ht hh ho hT hx hi hinf hz hzv h
          · cases hq
        · cases hq
      · cases hq
    · rename_i t x i v ho
      split at hq
      · rename_i st e mx mi mv hT hx hi hv
        simp only [Option.some.injEq] at hq; subst hq
        exact mq_up ht hh (.inl ho) hT hx hi hv h
      · cases hq
    · rename_i t x i v ho
      split at hq
      · rename_i st e mx mi mv hT hx hi hv
        simp only [Option.some.injEq] at hq; subst hq
        exact mq_up ht hh (.inr ho) hT hx hi hv h
      · cases hq
    · rename_i t x ho
      split at hq
      · rename_i se mx hT hx
        simp only [Option.some.injEq] at hq; subst hq
        exact mq_rg ht hh (st := se.1) (e := se.2) ho hT hx h
      · cases hq
    · rename_i x ho
      rw [Option.map_eq_some_iff] at hq
      obtain ⟨mx, hx, rfl⟩ := hq
      exact mq_nx ht hh ho hx h
    · rename_i x ho
      rw [Option.map_eq_some_iff] at hq
      obtain ⟨mx, hx, rfl⟩ := hq
      exact mq_en ht hh ho hx h
    · cases hq
  · unfold cMd at hq
    split at hq
    · rename_i x i t ts ha hta
      split at hq
      · rename_i st e mx mi hT hx hi
        simp only [Option.some.injEq] at hq; subst hq
        exact mq_dl ht hh ho hcal ha hta hT hx hi h
      · cases hq
    · cases hq
end

end Go.Rx
