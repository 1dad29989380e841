/-
  RxE: the operations that read and make memory.
-/
import Derived.Test.YtophpmdlgphihapRxD
namespace Go.Rx
set_option linter.unusedVariables false
set_option linter.unusedSimpArgs false

section
variable {P : Program} {o : Oper} {a : Act} {nid : Nat} {ι : Nat → Option Ref} {H H' : Heap} {w : World} {τ : Nat → AV} {v : AV} (ht : TRel ι τ a.tmps) (hh : HRel ι H w)

def ORel (ι : Nat → Option Ref) : Option AV → Option Value → Prop
  | none, none => True
  | some a, some u => VRel ι a u
  | _, _ => False

/-- a type's row, as 'cT' gives it -/
theorem cT_run {t : TypeId} {n : Nat} {ag : Bool} (h : cT P t = some (n, ag)) : (sizeOf t).run P w = .ok n w ∧ (isAgg t).run P w = .ok ag w := by
  unfold cT at h
  split at h
  · rename_i i d hi hd
    simp only [Option.some.injEq, Prod.mk.injEq] at h
    obtain ⟨rfl, rfl⟩ := h
    constructor
    · simp [sizeOf, typeInfo, hi]
    · unfold isAgg
      simp only [Sem.run_bind, run_underlying hd, Result.andThen_ok]
      cases d <;> simp
  · cases h

theorem packC_rel {ag : Bool} {cs : List AV} {r : AV} (h : packC ag cs = some r) {us : List Value} (hu : VRelL ι cs us) :
    (ag = true ∧ VRel ι r (.agg us.toArray)) ∨ (ag = false ∧ ∃ u, us = [u] ∧ VRel ι r u) := by
  unfold packC at h
  split at h
  · rename_i x
    simp only [Option.some.injEq] at h
    cases ag with
    | true => simp only [if_true] at h; subst h; exact .inl ⟨rfl, by simp only [VRel]; exact ⟨_, rfl, by simpa using hu⟩⟩
    | false =>
      simp only [Bool.false_eq_true, if_false] at h; subst h
      simp only [VRelL] at hu
      obtain ⟨u, r, rfl, h1, rfl⟩ := hu
      exact .inr ⟨rfl, u, rfl, h1⟩
  · cases ag with
    | true => simp only [if_true, Option.some.injEq] at h; subst h; exact .inl ⟨rfl, by simp only [VRel]; exact ⟨_, rfl, by simpa using hu⟩⟩
    | false => simp at h

theorem run_loadVar_of {t : TypeId} {ag : Bool} {us : List Value} (h : cT P t = some (us.length, ag)) {ad : Addr} (hc : ∀ j u, us[j]? = some u → w.cell? (ad.add j) = some u) :
    (ag = true → (loadVar t ad).run P w = .ok (.agg us.toArray) w) ∧ (∀ u, ag = false → us = [u] → (loadVar t ad).run P w = .ok u w) := by
  obtain ⟨h1, h2⟩ := cT_run (w := w) h
  constructor
  · rintro rfl
    have := run_loadCells_list (P := P) w ad us hc
    simp [loadVar, h1, h2, this]
  · rintro u rfl rfl
    have := hc 0 u rfl
    simp only [Addr.add, if_true] at this
    simp [loadVar, h2, this]

include ht hh

theorem step_ld {t : TypeId} {p : Operand} {mp : MX} {n : Nat} {ag : Bool} (ho : o.op = .load t p) (hT : cT P t = some (n, ag)) (hp : cX p = some mp) {cs : List AV} (h1 : H.read (mp.ev τ) n = some cs) {r : AV} (h2 : packC ag cs = some r) :
    Done P o a nid ι H w r H := by
  have e1 := ev_rel ht hp
  cases hq : mp.ev τ with
  | ptr id off =>
    rw [hq] at h1 e1
    simp only [VRel] at e1
    obtain ⟨r0, hr0, hv⟩ := e1
    obtain ⟨r1, us, hr1, hrel, hlen, hcell⟩ := hh.read h1
    rw [hr0] at hr1; injection hr1 with e; subst e
    have hul : us.length = n := by rw [← hrel.length, hlen]
    have hL := run_loadVar_of (P := P) (w := w) (t := t) (ag := ag) (us := us) (by rw [hul]; exact hT) (ad := ⟨r0.row, r0.off + off, none⟩) (fun j u hj => by rw [add_lit]; exact hcell j u hj)
    rcases packC_rel h2 hrel with ⟨hag, hr⟩ | ⟨hag, u, hu, hr⟩
    · exact Done.pure hh (x := .agg us.toArray) (by simp [execOp, ho, hv, Instr.loadAt, Instr.sureAddr, hL.1 hag]) hr
    · exact Done.pure hh (x := u) (by simp [execOp, ho, hv, Instr.loadAt, Instr.sureAddr, hL.2 u hag hu]) hr
  | gl g off =>
    rw [hq] at h1 e1
    simp only [VRel] at e1
    obtain ⟨us, hrel, hlen, hcell⟩ := hh.readg h1
    have hul : us.length = n := by rw [← hrel.length, hlen]
    have hL := run_loadVar_of (P := P) (w := w) (t := t) (ag := ag) (us := us) (by rw [hul]; exact hT) (ad := ⟨g, off, none⟩) (fun j u hj => by rw [add_lit]; exact hcell j u hj)
    rcases packC_rel h2 hrel with ⟨hag, hr⟩ | ⟨hag, u, hu, hr⟩
    · exact Done.pure hh (x := .agg us.toArray) (by simp [execOp, ho, e1, Instr.loadAt, Instr.sureAddr, hL.1 hag]) hr
    · exact Done.pure hh (x := u) (by simp [execOp, ho, e1, Instr.loadAt, Instr.sureAddr, hL.2 u hag hu]) hr
  | _ => rw [hq] at h1; simp [Heap.read] at h1

theorem step_st {t : TypeId} {p x : Operand} {mp mx : MX} {n : Nat} {ag : Bool} (ho : o.op = .store t p x) (hT : cT P t = some (n, ag)) (hp : cX p = some mp) (hx : cX x = some mx)
    (h1 : (mx.ev τ).cells.length = n) (h2 : H.write (mp.ev τ) (mx.ev τ).cells = some H') : Done P o a nid ι H w .any H' := by
  have e1 := ev_rel ht hp
  have e2 := ev_rel ht hx
  have hone : (mx.ev τ).cells.all AV.one = true := by
    unfold Heap.write at h2
    split at h2
    · split at h2
      · split at h2
        · rename_i hc; exact hc.2.2
        · cases h2
      · cases h2
    · cases h2
  have e3 := AV.cells_rel e2 hone
  obtain ⟨ad, w', hv, hrun, hR, hE⟩ := hh.write (P := P) h2 e1 e3
  have hsz : (a.eval x).cells.size = n := by rw [← Array.length_toList, ← e3.length, h1]
  refine ⟨undef, w', ι, .inr ⟨?_, rfl⟩, by simp [VRel], hR, hE, fun _ _ => rfl⟩
  simp [execOp, ho, hv, Instr.storeAt, Instr.sureAddr, storeVar, (cT_run (w := w) hT).1, hsz, hrun]

omit ht hh in
theorem part_rel {t : TypeId} {n : Nat} {ag : Bool} (hT : cT P t = some (n, ag)) {cs : List AV} {vs : Array Value} (hr : VRelL ι cs vs.toList) {off : Nat} (hl : off + n ≤ cs.length) {r : AV} (h : packC ag ((cs.drop off).take n) = some r) :
    ∃ z, (part t vs off).run P w = .ok z w ∧ VRel ι r z := by
  have hrel := (hr.drop off).take n
  obtain ⟨h1, h2⟩ := cT_run (w := w) hT
  have hlen := hr.length
  rw [Array.length_toList] at hlen
  rcases packC_rel h hrel with ⟨hag, hz⟩ | ⟨hag, u, hu, hz⟩
  · subst hag
    refine ⟨_, ?_, hz⟩
    simp only [part, Sem.run_bind, h2, Result.andThen_ok, h1, if_true, Sem.run_ite, Sem.run_pure]
    congr 2
    apply Array.ext'
    simp [List.take_drop]
  · subst hag
    refine ⟨u, ?_, hz⟩
    have : vs[off]? = some u := by
      have h3 : ((vs.toList.drop off).take n)[0]? = some u := by rw [hu]; rfl
      rw [List.getElem?_take] at h3
      split at h3
      · rw [List.getElem?_drop] at h3; simpa using h3
      · cases h3
    simp [part, h2, this]

theorem step_fld {t : TypeId} {x : Operand} {mx : MX} {fs : Array Field} {f : Nat} {fd : Field} {n : Nat} {ag : Bool} (ho : o.op = .field t x f) (hu : P.underlying t = some (.struct fs)) (hf : fs[f]? = some fd) (hT : cT P fd.type = some (n, ag))
    (hx : cX x = some mx) {cs : List AV} (h1 : mx.ev τ = .agg cs) (h2 : fd.offset + n ≤ cs.length) {r : AV} (h3 : packC ag ((cs.drop fd.offset).take n) = some r) : Done P o a nid ι H w r H := by
  have e1 := ev_rel ht hx
  rw [h1] at e1; simp only [VRel] at e1
  obtain ⟨vs, hv, hr⟩ := e1
  obtain ⟨z, hz, hrel⟩ := part_rel (P := P) (w := w) hT hr h2 h3
  exact Done.pure hh (x := z) (by simp [execOp, ho, hv, Instr.field, run_underlying hu, hf, asAgg, hz]) hrel

theorem step_arr {t e : TypeId} {x i : Operand} {mx mi : MX} {m n : Nat} {ag : Bool} (ho : o.op = .index t x i) (hu : P.underlying t = some (.array m e)) (hT : cT P e = some (n, ag)) (hx : cX x = some mx) (hi : cX i = some mi)
    {k : IntKind} {j : Int} (h0 : mi.ev τ = .int k j) {cs : List AV} (h1 : mx.ev τ = .agg cs) (h2 : 0 ≤ j ∧ j < m ∧ j.toNat * n + n ≤ cs.length) {r : AV} (h3 : packC ag ((cs.drop (j.toNat * n)).take n) = some r) : Done P o a nid ι H w r H := by
  have e1 := ev_rel ht hx
  have e2 := ev_rel ht hi
  rw [h1] at e1; rw [h0] at e2; simp only [VRel] at e1 e2
  obtain ⟨vs, hv, hr⟩ := e1
  obtain ⟨z, hz, hrel⟩ := part_rel (P := P) (w := w) hT hr h2.2.2 h3
  exact Done.pure hh (x := z) (by simp [execOp, ho, hv, e2, Instr.index, asIntOf, run_underlying hu, h2.1, h2.2.1, (cT_run (w := w) hT).1, hz]) hrel

theorem step_box {t : TypeId} {x : Operand} {mx : MX} (ho : o.op = .box t x) (hx : cX x = some mx) (h1 : (mx.ev τ).cells.all AV.one = true) (hn : ι nid = none) (hn' : nid ≤ H.size) :
    Done P o a nid ι H w (.ptr nid 0) (H.new nid (some ⟨true, (mx.ev τ).cells⟩)) := by
  have e1 := AV.cells_rel (ev_rel ht hx) h1
  refine Done.alloc hh hn hn' (w1 := w.alloc (.cells (a.eval x).cells t)) (c := (a.eval x).cells) (e := t) (rest := []) (x := .pointer (some ⟨w.heap.size, 0, none⟩)) ?_ rfl rfl rfl rfl e1 (by simp) ?_
  · simp [execOp, ho, Instr.box, newVar, newRow]
  · simp [VRel, Ref.with]

omit ht hh in
theorem cZ_run {t : TypeId} {z : List AV} (h : cZ P t = some z) : ∃ i v, P.info? t = some i ∧ i.zero = some v ∧ VRelL ι z v.cells.toList ∧ z.all AV.one = true ∧ z.length = i.size ∧ v.cells.size = i.size := by
  unfold cZ at h
  split at h
  · rename_i i hi
    split at h
    · rename_i v hv
      split at h
      · rename_i l hl
        split at h
        · rename_i hc
          simp only [Option.some.injEq] at h; subst h
          have hr := ofVals_rel (ι := ι) hl
          exact ⟨i, v, hi, hv, hr, hc.1, hc.2, by rw [← Array.length_toList, ← hr.length, hc.2]⟩
        · cases h
      · cases h
    · cases h
  · cases h

omit ht in
theorem step_new {t : TypeId} {z : List AV} (ho : o.op = .alloc t) (hz : cZ P t = some z) (hn : ι nid = none) (hn' : nid ≤ H.size) :
    Done P o a nid ι H w (.ptr nid 0) (H.new nid (some ⟨true, z⟩)) := by
  obtain ⟨i, v, hi, hv, hr, _, _, _⟩ := cZ_run (ι := ι) hz
  refine Done.alloc hh hn hn' (w1 := w.alloc (.cells v.cells t)) (c := v.cells) (e := t) (rest := []) (x := .pointer (some ⟨w.heap.size, 0, none⟩)) ?_ rfl rfl rfl rfl hr (by simp) ?_
  · simp [execOp, ho, Instr.alloc, zeroValue, typeInfo, hi, hv, newVar, newRow]
  · simp [VRel, Ref.with]

omit ht hh in
theorem zrep_rel {z : List AV} {v : Value} (hr : VRelL ι z v.cells.toList) (hz : z.length = v.cells.size) (h0 : 0 < z.length) (n : Nat) :
    VRelL ι (zrep z n) (madeCells v.cells n).toList := by
  rw [VRelL.iff]
  refine ⟨by simp [zrep, madeCells], ?_⟩
  intro i a u ha hu
  simp only [zrep, List.getElem?_map, Option.map_eq_some_iff] at ha
  obtain ⟨j, hj, rfl⟩ := ha
  obtain ⟨hj1, rfl⟩ := List.getElem?_eq_some_iff.1 hj
  simp only [List.length_range] at hj1
  simp only [List.getElem_range]
  simp only [madeCells, Array.toList_map, List.getElem?_map, Option.map_eq_some_iff] at hu
  obtain ⟨k, hk, rfl⟩ := hu
  have : k = i := by
    rw [Array.getElem?_toList, Array.getElem?_range] at hk
    rw [if_pos hj1] at hk
    exact (Option.some.inj hk).symm
  subst this
  have hlt : k % z.length < z.length := Nat.mod_lt _ h0
  have h2 : z[k % z.length]? = some z[k % z.length] := List.getElem?_eq_getElem hlt
  obtain ⟨u, hu, hur⟩ := hr.get h2
  simp only [List.getD, h2, Option.getD_some]
  rw [← hz]
  have hlt' : k % z.length < v.cells.size := by rw [← hz]; exact hlt
  rw [Array.getElem?_toList, Array.getElem?_eq_getElem hlt'] at hu
  rw [getElem!_pos v.cells _ hlt']
  rw [Option.some.inj hu]; exact hur

omit ht hh in
theorem take_madeCells (z : Array Value) {n m : Nat} (h : n ≤ m) : (madeCells z m).toList = (madeCells z n).toList ++ (madeCells z m).toList.drop n := by
  have e : (madeCells z n).toList = (madeCells z m).toList.take n := by
    apply List.ext_getElem?
    intro j
    rw [List.getElem?_take]
    by_cases hj : j < n
    · have : j < m := by omega
      simp [madeCells, hj, this]
    · rw [if_neg hj]; simp [madeCells, hj]
  rw [e, List.take_append_drop]

theorem step_mks {t e : TypeId} {j : TypeInfo} {n c : Operand} {mn mc : MX} {z : List AV} (ho : o.op = .makeSlice t n c) (hu : P.underlying t = some (.slice e)) (hj : P.info? e = some j) (hz : cZ P e = some z) (h0 : 0 < j.size) (hn1 : cX n = some mn) (hc1 : cX c = some mc)
    {l m : Int} (h1 : mn.ev τ = .int .i64 l) (h2 : mc.ev τ = .int .i64 m) (h3 : 0 ≤ l ∧ l ≤ m ∧ m ≤ 9223372036854775807 ∧ j.bytes * m ≤ 281474976710656) (hn : ι nid = none) (hn' : nid ≤ H.size) :
    Done P o a nid ι H w (.slice nid 0 l.toNat none j.size) (H.new nid (some ⟨true, zrep z (l.toNat * j.size)⟩)) := by
  have e1 := ev_rel ht hn1
  have e2 := ev_rel ht hc1
  rw [h1] at e1; rw [h2] at e2; simp only [VRel] at e1 e2
  obtain ⟨i, v, hi, hv, hr, hone, hzl, hvs⟩ := cZ_run (ι := ι) hz
  rw [hj] at hi; injection hi with hij; subst hij
  have hrun := run_make (P := P) w t e j v hu hj hv .i64 .i64 l m h3.1 h3.2.1 h3.2.2.2 h3.2.2.1
  have hrep := zrep_rel hr (by omega) (by omega) (l.toNat * j.size)
  have hle : l.toNat * j.size ≤ m.toNat * j.size := Nat.mul_le_mul_right _ (by omega)
  refine Done.alloc hh hn hn' (w1 := w.alloc (.cells (madeCells v.cells (m.toNat * j.size)) e)) (c := madeCells v.cells (m.toNat * j.size)) (e := e)
    (vs := (madeCells v.cells (l.toNat * j.size)).toList) (rest := (madeCells v.cells (m.toNat * j.size)).toList.drop (l.toNat * j.size)) (x := .slice (some ⟨w.heap.size, 0, none⟩) l.toNat m.toNat) ?_ rfl rfl rfl rfl hrep (take_madeCells _ hle) ?_
  · simp [execOp, ho, e1, e2, hrun]
  · simp only [VRel]
    refine ⟨⟨w.heap.size, 0, _⟩, _, _, by simp [Ref.with]; rfl, rfl, by omega, by unfold maxLen; omega, by simp, .inr ⟨rfl, ?_⟩⟩
    simp [size_madeCells]

omit ht hh in
theorem foldl_set (off : Nat) : ∀ (l : List Value) (k : Nat) (arr : Array Value), off + k + l.length ≤ arr.size →
    ((l.zipIdx k).foldl (fun cs (x : Value × Nat) => cs.setIfInBounds (off + x.2) x.1) arr).toList = arr.toList.take (off + k) ++ l ++ arr.toList.drop (off + k + l.length)
  | [], k, arr, _ => by simp
  | v :: l, k, arr, h => by
    simp only [List.length_cons] at h
    simp only [List.zipIdx_cons, List.foldl_cons]
    rw [foldl_set off l (k + 1) (arr.setIfInBounds (off + k) v) (by simp; omega)]
    rw [Array.toList_setIfInBounds]
    have := list_seg_step arr.toList (off + k) v l (by simp; omega)
    simpa [Nat.add_assoc] using this

omit ht hh in
theorem fill_rel {place : Nat → Option (Nat × Nat)} : ∀ {ps : List (Nat × Value)} {qs : List (Nat × Nat × AV)} {cs cs' : List AV} {cells : Array Value},
    fillL cs qs = some cs' → VRelL ι cs cells.toList → ps.length = qs.length → (∀ (k : Nat) (p : Nat × Value) (q : Nat × Nat × AV), ps[k]? = some p → qs[k]? = some q → place p.1 = some (q.1, q.2.1) ∧ VRel ι q.2.2 p.2) →
    ∃ cells', Instr.fill place cells ps = some cells' ∧ VRelL ι cs' cells'.toList
  | [], [], cs, cs', cells, h, hr, _, _ => by simp only [fillL, Option.some.injEq] at h; subst h; exact ⟨cells, rfl, hr⟩
  | [], q :: qs, _, _, _, _, _, hl, _ => by simp at hl
  | p :: ps, [], _, _, _, _, _, hl, _ => by simp at hl
  | p :: ps, (off, n, v) :: qs, cs, cs', cells, h, hr, hl, hk => by
    simp only [fillL] at h
    split at h
    · rename_i hc
      obtain ⟨h1, h2, h3⟩ := hc
      obtain ⟨g1, g2⟩ := hk 0 p (off, n, v) rfl rfl
      simp only at g1 g2
      have e3 := AV.cells_rel g2 h3
      have hsz : p.2.cells.size = n := by rw [← Array.length_toList, ← e3.length, h1]
      have hcl : cs.length = cells.size := by rw [hr.length, Array.length_toList]
      have hfold := foldl_set off p.2.cells.toList 0 cells (by simp; omega)
      simp only [Nat.add_zero, Array.length_toList, hsz] at hfold
      have hnew : VRelL ι (cs.take off ++ v.cells ++ cs.drop (off + n)) (cells.toList.take off ++ p.2.cells.toList ++ cells.toList.drop (off + n)) := VRelL.append (VRelL.append (hr.take off) e3) (hr.drop (off + n))
      rw [← hfold] at hnew
      obtain ⟨cells', hf, hrel⟩ := fill_rel (place := place) (ps := ps) h hnew (by simpa using hl) (fun k p' q' hp hq => hk (k + 1) p' q' (by simpa using hp) (by simpa using hq))
      refine ⟨cells', ?_, hrel⟩
      obtain ⟨i, x⟩ := p
      simp only at g1 hsz hf
      simp only [Instr.fill, g1]
      rw [if_neg (by simp; omega)]
      rw [← hf]
      congr 1
      rw [← Array.foldl_toList, Array.toList_zipIdx]
    · cases h

omit hh in
theorem cParts_rel : ∀ {ps : List (Nat × Operand)} {l : List (Nat × MX)}, cParts ps = some l → l.length = ps.length ∧ ∀ (k : Nat) (p : Nat × Operand) (q : Nat × MX), ps[k]? = some p → l[k]? = some q → p.1 = q.1 ∧ VRel ι (q.2.ev τ) (a.eval p.2)
  | [], l, h => by simp only [cParts, Option.some.injEq] at h; subst h; simp
  | (i, x) :: r, l, h => by
    simp only [cParts] at h
    split at h
    · rename_i m l' hm hl
      simp only [Option.some.injEq] at h; subst h
      obtain ⟨g1, g2⟩ := cParts_rel hl
      refine ⟨by simp [g1], ?_⟩
      intro k p q hp hq
      cases k with
      | zero => simp at hp hq; subst hp; subst hq; exact ⟨rfl, ev_rel ht hm⟩
      | succ k => simp at hp hq; exact g2 k p q hp hq
    · cases h

theorem step_bsl {t e : TypeId} {j : TypeInfo} {n : Nat} {ps : Array (Nat × Operand)} {z cs : List AV} {l : List (Nat × MX)} (ho : o.op = .buildSlice t n ps) (hu : P.underlying t = some (.slice e)) (hj : P.info? e = some j) (hz : cZ P e = some z) (h0 : 0 < j.size) (h24 : n * j.size ≤ 16777216)
    (hl : cParts ps.toList = some l) (h : fillL (zrep z (n * j.size)) (l.map fun p => (p.1 * j.size, j.size, p.2.ev τ)) = some cs) (hn : ι nid = none) (hn' : nid ≤ H.size) :
    Done P o a nid ι H w (.slice nid 0 n none j.size) (H.new nid (some ⟨true, cs⟩)) := by
  obtain ⟨i, v, hi, hv, hr, hone, hzl, hvs⟩ := cZ_run (ι := ι) hz
  rw [hj] at hi; injection hi with hij; subst hij
  obtain ⟨g1, g2⟩ := cParts_rel ht hl
  obtain ⟨cells', hf, hrel⟩ := fill_rel (ι := ι) (place := fun i => some (i * j.size, j.size)) (ps := (ps.map fun p => (p.1, a.eval p.2)).toList) h (zrep_rel hr (by omega) (by omega) (n * j.size)) (by simp [g1]) (by
    intro k p q hp hq
    simp only [Array.toList_map, List.getElem?_map, Option.map_eq_some_iff] at hp hq
    obtain ⟨p', hp', rfl⟩ := hp
    obtain ⟨q', hq', rfl⟩ := hq
    obtain ⟨f1, f2⟩ := g2 k p' q' hp' hq'
    exact ⟨by simp [f1], f2⟩)
  have hcl : cells'.size = n * j.size := by
    have h1 := hrel.length
    have h2 : cs.length = n * j.size := by
      have key : ∀ (qs : List (Nat × Nat × AV)) (cs cs' : List AV), fillL cs qs = some cs' → cs'.length = cs.length := by
        intro qs
        induction qs with
        | nil => intro cs cs' h; simp only [fillL, Option.some.injEq] at h; rw [h]
        | cons q qs ih =>
          intro cs cs' h
          obtain ⟨off, m, v⟩ := q
          simp only [fillL] at h
          split at h
          · rename_i hc
            rw [ih _ _ h]; simp; omega
          · cases h
      rw [key _ _ _ h]; simp [zrep]
    rw [← Array.length_toList, ← h1, h2]
  refine Done.alloc hh hn hn' (w1 := w.alloc (.cells cells' e)) (c := cells') (e := e) (vs := cells'.toList) (rest := []) (x := .slice (some ⟨w.heap.size, 0, none⟩) n n) ?_ rfl rfl rfl rfl hrel (by simp) ?_
  · have hb : ¬ (16777216 < n * j.size) := by omega
    simp only [execOp, ho, Instr.buildSlice, Sem.run_bind, run_underlying hu, Result.andThen_ok, sizeOf, typeInfo, hj]
    by_cases hz0 : n * j.size = 0
    · have hn0 : n = 0 := by rcases Nat.mul_eq_zero.1 hz0 with h | h <;> omega
      subst hn0
      have hf' : Instr.fill (fun i => some (i * j.size, j.size)) #[] (List.map (fun p => (p.1, a.eval p.2)) ps.toList) = some cells' := by simpa [madeCells, Array.range_zero'] using hf
      simp [hj, newRow, hf', Array.range_zero']
    · have hf' : Instr.fill (fun i => some (i * j.size, j.size)) ((Array.range (n * j.size)).map (v.cells[· % v.cells.size]!)) (List.map (fun p => (p.1, a.eval p.2)) ps.toList) = some cells' := by simpa [madeCells] using hf
      have hz1 : ¬ (n = 0 ∨ j.size = 0) := by rw [← Nat.mul_eq_zero]; exact hz0
      simp [hj, hb, hz1, zeroValue, typeInfo, hv, newRow, hf']
      exact fun h => absurd h hz0
  · simp only [VRel]
    refine ⟨⟨w.heap.size, 0, _⟩, _, _, by simp [Ref.with]; rfl, rfl, Nat.le_refl _, by unfold maxLen; have : n ≤ n * j.size := Nat.le_mul_of_pos_right _ h0; omega, by simp, .inr ⟨rfl, ?_⟩⟩
    simp [hcl]

theorem step_bld_arr {t e : TypeId} {j : TypeInfo} {m : Nat} {ps : Array (Nat × Operand)} {z cs : List AV} {l : List (Nat × MX)} (ho : o.op = .build t ps) (hu : P.underlying t = some (.array m e)) (hj : P.info? e = some j) (hz : cZ P t = some z)
    (hl : cParts ps.toList = some l) (h : fillL z (l.map fun p => (p.1 * j.size, j.size, p.2.ev τ)) = some cs) : Done P o a nid ι H w (.agg cs) H := by
  obtain ⟨i, v, hi, hv, hr, hone, hzl, hvs⟩ := cZ_run (ι := ι) hz
  obtain ⟨g1, g2⟩ := cParts_rel ht hl
  obtain ⟨cells', hf, hrel⟩ := fill_rel (ι := ι) (place := fun i => some (i * j.size, j.size)) (ps := (ps.map fun p => (p.1, a.eval p.2)).toList) h hr (by simp [g1]) (by
    intro k p q hp hq
    simp only [Array.toList_map, List.getElem?_map, Option.map_eq_some_iff] at hp hq
    obtain ⟨p', hp', rfl⟩ := hp
    obtain ⟨q', hq', rfl⟩ := hq
    obtain ⟨f1, f2⟩ := g2 k p' q' hp' hq'
    exact ⟨by simp [f1], f2⟩)
  refine Done.pure hh (x := .agg cells') ?_ (by simp only [VRel]; exact ⟨_, rfl, hrel⟩)
  have hf' : Instr.fill (fun i => some (i * j.size, j.size)) v.cells (List.map (fun p => (p.1, a.eval p.2)) ps.toList) = some cells' := by simpa using hf
  simp [execOp, ho, Instr.build, zeroValue, typeInfo, hi, hv, run_underlying hu, sizeOf, hj, hf']

omit hh in
theorem cFields_rel {fs : Array Field} : ∀ {ps : List (Nat × Operand)} {l : List (Nat × Nat × MX)}, cFields P fs ps = some l →
    l.length = ps.length ∧ ∀ (k : Nat) (p : Nat × Operand) (q : Nat × Nat × MX), ps[k]? = some p → l[k]? = some q → (∃ f j, fs[p.1]? = some f ∧ P.info? f.type = some j ∧ q.1 = f.offset ∧ q.2.1 = j.size) ∧ VRel ι (q.2.2.ev τ) (a.eval p.2)
  | [], l, h => by simp only [cFields, Option.some.injEq] at h; subst h; simp
  | (i, x) :: r, l, h => by
    simp only [cFields] at h
    split at h
    · rename_i f m l' hf hm hl
      split at h
      · rename_i j hj
        simp only [Option.some.injEq] at h; subst h
        obtain ⟨g1, g2⟩ := cFields_rel hl
        refine ⟨by simp [g1], ?_⟩
        intro k p q hp hq
        cases k with
        | zero => simp at hp hq; subst hp; subst hq; exact ⟨⟨f, j, hf, hj, rfl, rfl⟩, ev_rel ht hm⟩
        | succ k => simp at hp hq; exact g2 k p q hp hq
      · cases h
    · cases h

omit ht hh in
theorem run_places {fs : Array Field} (hall : ∀ f ∈ fs, ∃ j, P.info? f.type = some j) :
    (fs.mapM fun f => (do pure (f.offset, ← sizeOf f.type) : Sem (Nat × Nat))).run P w = .ok (fs.map fun f => (f.offset, ((P.info? f.type).map (·.size)).getD 0)) w := by
  have key : ∀ (l : List Field), (∀ f ∈ l, ∃ j, P.info? f.type = some j) → (l.mapM fun f => (do pure (f.offset, ← sizeOf f.type) : Sem (Nat × Nat))).run P w = .ok (l.map fun f => (f.offset, ((P.info? f.type).map (·.size)).getD 0)) w := by
    intro l
    induction l with
    | nil => intro _; simp
    | cons f l ih =>
      intro h
      obtain ⟨j, hj⟩ := h f (by simp)
      have := ih (fun g hg => h g (by simp [hg]))
      simp only [List.mapM_cons, Sem.run_bind, sizeOf, typeInfo, run_program, Result.andThen_ok, hj, Sem.run_pure] at this ⊢
      rw [this]
      simp [hj]
  have h2 := key fs.toList (fun f hf => hall f (by simpa using hf))
  rw [Array.mapM_eq_mapM_toList]
  simp only [Sem.run_map, h2, Result.andThen_ok]
  congr 1
  apply Array.ext'
  simp

theorem step_bld_str {t : TypeId} {fs : Array Field} {ps : Array (Nat × Operand)} {z cs : List AV} {l : List (Nat × Nat × MX)} (ho : o.op = .build t ps) (hu : P.underlying t = some (.struct fs)) (hall : ∀ f ∈ fs, ∃ j, P.info? f.type = some j) (hz : cZ P t = some z)
    (hl : cFields P fs ps.toList = some l) (h : fillL z (l.map fun p => (p.1, p.2.1, p.2.2.ev τ)) = some cs) : Done P o a nid ι H w (.agg cs) H := by
  obtain ⟨i, v, hi, hv, hr, hone, hzl, hvs⟩ := cZ_run (ι := ι) hz
  obtain ⟨g1, g2⟩ := cFields_rel ht hl
  obtain ⟨cells', hf, hrel⟩ := fill_rel (ι := ι) (place := ((fs.map fun f => (f.offset, ((P.info? f.type).map (·.size)).getD 0))[·]?)) (ps := (ps.map fun p => (p.1, a.eval p.2)).toList) h hr (by simp [g1]) (by
    intro k p q hp hq
    simp only [Array.toList_map, List.getElem?_map, Option.map_eq_some_iff] at hp hq
    obtain ⟨p', hp', rfl⟩ := hp
    obtain ⟨q', hq', rfl⟩ := hq
    obtain ⟨⟨f, j, f1, f2, f3, f4⟩, f5⟩ := g2 k p' q' hp' hq'
    exact ⟨by simp [f1, f2, f3, f4], f5⟩)
  refine Done.pure hh (x := .agg cells') ?_ (by simp only [VRel]; exact ⟨_, rfl, hrel⟩)
  have hf' : Instr.fill ((fs.map fun f => (f.offset, ((P.info? f.type).map (·.size)).getD 0))[·]?) v.cells (List.map (fun p => (p.1, a.eval p.2)) ps.toList) = some cells' := by simpa using hf
  have hp := run_places (P := P) (w := w) hall
  simp only [execOp, ho, Instr.build, zeroValue, typeInfo, Sem.run_bind, Sem.run_pure, run_program, Result.andThen_ok, hi, hv, run_underlying hu, hp]
  simp only [Array.toList_map, hf', Sem.run_pure, Result.andThen_ok]

omit ht hh in
theorem bnd_rel {lim d r : Nat} {x : Option AV} {v : Option Value} (h : bnd lim x d = some r) (hv : ORel ι x v) {lim' : Nat} (hl : lim ≤ lim') (code : BoundsCode) :
    (∀ u, v = some u → (Instr.sliceBound u lim' code).run P w = .ok r w) ∧ (v = none → r = d) ∧ (∀ u, v = some u → r ≤ lim) := by
  cases x with
  | none =>
    cases v with
    | none => simp only [bnd, Option.some.injEq] at h; exact ⟨fun u hu => (by cases hu), fun _ => h.symm, fun u hu => (by cases hu)⟩
    | some u => exact hv.elim
  | some a =>
    cases v with
    | none => exact hv.elim
    | some u =>
      simp only [ORel] at hv
      cases a <;> simp only [bnd, reduceCtorEq] at h
      rename_i k n
      simp only [VRel] at hv
      subst hv
      split at h
      · rename_i hc
        simp only [Option.some.injEq] at h; subst h
        refine ⟨fun u hu => ?_, fun hu => (by cases hu), fun u hu => (by omega)⟩
        cases hu
        have : n ≤ (lim' : Int) := by omega
        simp [Instr.sliceBound, asIntOf, hc.1, this]
      · cases h

omit hh in
theorem cO_rel {x : Option Operand} {m : Option MX} (h : cO x = some m) : ORel ι (m.map (·.ev τ)) (x.map a.eval) := by
  cases x with
  | none => simp only [cO, Option.some.injEq] at h; subst h; trivial
  | some x =>
    simp only [cO, Option.map_eq_some_iff] at h
    obtain ⟨p, hp, rfl⟩ := h
    exact ev_rel ht hp

theorem step_sl {t e : TypeId} {j : TypeInfo} {x : Operand} {lo hi mx : Option Operand} {m : MX} {mlo mhi mmx : Option MX} (ho : o.op = .slice t x lo hi mx) (hu : P.underlying t = some (.slice e)) (hj : P.info? e = some j) (hx : cX x = some m) (h1 : cO lo = some mlo) (h2 : cO hi = some mhi) (h3 : cO mx = some mmx)
    (hmh : mmx.isSome = true → mhi.isSome = true) {r : AV} (h : msl (m.ev τ) (mlo.map (·.ev τ)) (mhi.map (·.ev τ)) (mmx.map (·.ev τ)) j.size = some r) : Done P o a nid ι H w r H := by
  have e0 := ev_rel ht hx
  have r1 := cO_rel ht h1
  have r2 := cO_rel ht h2
  have r3 := cO_rel ht h3
  have hsame : mmx.isSome = mx.isSome ∧ mhi.isSome = hi.isSome := by
    constructor
    · cases mx <;> simp [cO] at h3 <;> first | (subst h3; rfl) | (obtain ⟨p, _, rfl⟩ := h3; rfl)
    · cases hi <;> simp [cO] at h2 <;> first | (subst h2; rfl) | (obtain ⟨p, _, rfl⟩ := h2; rfl)
  generalize mlo.map (·.ev τ) = alo at h r1
  generalize hahi : mhi.map (·.ev τ) = ahi at h r2
  generalize hamx : mmx.map (·.ev τ) = amx at h r3
  unfold msl at h
  split at h
  · cases h
  rename_i m' hm
  split at h
  · cases h
  rename_i h' hh'
  split at h
  · cases h
  rename_i l' hl'
  cases hv : m.ev τ with
  | slice id off n cap es =>
    rw [hv] at h e0 hm hh'
    simp only [AV.len] at hm hh'
    simp only at h
    split at h
    · rename_i hes
      subst hes
      simp only [Option.some.injEq] at h; subst h
      simp only [VRel] at e0
      obtain ⟨r0, a0, c0, hr0, hval, hnc, hcm, hcap, hor⟩ := e0
      -- the three bounds, in the program's own order
      have b3 := bnd_rel (P := P) (w := w) hm r3 (lim' := c0) hnc .slice3Acap
      have hm'n : m' ≤ n := by
        cases hmx : mx.map a.eval with
        | none => have := b3.2.1 hmx; omega
        | some u => exact b3.2.2 u hmx
      have hh'm : h' ≤ n := by
        have b2 := bnd_rel (P := P) (w := w) hh' r2 (lim' := m') (Nat.le_refl _) .slice3B
        cases hhi : hi.map a.eval with
        | none => have := b2.2.1 hhi; omega
        | some u => have := b2.2.2 u hhi; omega
      have b1 := bnd_rel (P := P) (w := w) hl' r1 (lim' := h') (Nat.le_refl _)
      have hl'h : l' ≤ h' := by
        cases hlo : lo.map a.eval with
        | none => have := (b1 .sliceB).2.1 hlo; omega
        | some u => have := (b1 .sliceB).2.2 u hlo; omega
      have hm'h : amx.isSome = true → h' ≤ m' := by
        intro hs
        have b2 := bnd_rel (P := P) (w := w) hh' r2 (lim' := m') (Nat.le_refl _) .slice3B
        cases hhi : hi.map a.eval with
        | none =>
          exfalso
          rw [← hamx] at hs
          have h5 := hmh (by simpa using hs)
          rw [hsame.2] at h5
          cases hi <;> simp at h5 hhi
        | some u => exact b2.2.2 u hhi
      have hbounds : (Instr.sliceBounds true n c0 (lo.map a.eval) (hi.map a.eval) (mx.map a.eval)).run P w = .ok (l', h', if amx.isSome = true then m' else c0) w := by
        have hax : amx.isSome = (mx.map a.eval).isSome := by rw [← hamx]; simp [hsame.1]
        unfold Instr.sliceBounds
        cases hmx : mx.map a.eval with
        | some u =>
          rw [hmx] at hax
          have g3 := b3.1 u hmx
          cases hhi : hi.map a.eval with
          | none =>
            exfalso
            have h5 := hmh (by rw [hsame.1]; cases mx <;> simp at hmx ⊢)
            rw [hsame.2] at h5
            cases hi <;> simp at h5 hhi
          | some u2 =>
            have g2 := (bnd_rel (P := P) (w := w) hh' r2 (lim' := m') (Nat.le_refl _) .slice3B).1 u2 hhi
            cases hlo : lo.map a.eval with
            | none =>
              have g1 := (b1 .slice3C).2.1 hlo
              simp [g3, g2, hax, g1]
            | some u1 =>
              have g1 := (b1 .slice3C).1 u1 hlo
              simp [g3, g2, g1, hax]
        | none =>
          rw [hmx] at hax
          have hm0 := b3.2.1 hmx
          cases hhi : hi.map a.eval with
          | none =>
            have g2 := (bnd_rel (P := P) (w := w) hh' r2 (lim' := m') (Nat.le_refl _) .slice3B).2.1 hhi
            cases hlo : lo.map a.eval with
            | none =>
              have g1 := (b1 .sliceB).2.1 hlo
              simp [hax, g1, g2]
            | some u1 =>
              have g1 := (b1 .sliceB).1 u1 hlo
              rw [g2] at g1
              simp [hax, g1, g2]
          | some u2 =>
            have g2 := (bnd_rel (P := P) (w := w) hh' r2 (lim' := c0) (by omega) .sliceAcap).1 u2 hhi
            cases hlo : lo.map a.eval with
            | none =>
              have g1 := (b1 .sliceB).2.1 hlo
              simp [hax, g1, g2]
            | some u1 =>
              have g1 := (b1 .sliceB).1 u1 hlo
              simp [hax, g1, g2]
      have hMc : (if amx.isSome = true then m' else c0) ≤ c0 := by split <;> omega
      have hhM : h' ≤ (if amx.isSome = true then m' else c0) := by
        split
        · rename_i hs; exact hm'h hs
        · omega
      generalize hM : (if amx.isSome = true then m' else c0) = M at hbounds hMc hhM
      refine Done.pure hh (x := .slice (if M = l' then some a0 else (some a0).map (·.add (l' * j.size))) (h' - l') (M - l')) ?_ ?_
      · simp [execOp, ho, hval, Instr.sliceAt, Instr.slice, run_underlying hu, hbounds, sizeOf, typeInfo, hj]
      · simp only [VRel]
        refine ⟨r0, if M = l' then a0 else a0.add (l' * j.size), M - l', hr0, by split <;> rfl, by omega, by omega, ?_, ?_⟩
        · intro k hk
          split at hk
          · rename_i hs; rw [if_pos hs] at hM; injection hk with hk; omega
          · rename_i hs
            rw [if_neg hs] at hM
            simp only [Option.map_eq_some_iff] at hk
            obtain ⟨k0, hk0, rfl⟩ := hk
            have := hcap k0 hk0; omega
        · rcases hor with ⟨g1, g2⟩ | ⟨g1, g2⟩
          · exact .inl ⟨by omega, by omega⟩
          · by_cases hMl : M = l'
            · exact .inl ⟨by omega, by omega⟩
            · refine .inr ⟨?_, ?_⟩
              · rw [if_neg hMl, g1, add_lit, Nat.add_assoc]
              · have : l' * j.size + (M - l') * j.size ≤ c0 * j.size := by rw [← Nat.add_mul]; exact Nat.mul_le_mul_right _ (by omega)
                omega
    · cases h
  | nilSlice =>
    rw [hv] at h e0 hm hh'
    simp only [AV.len] at hm hh'
    simp only [Option.some.injEq] at h; subst h
    simp only [VRel] at e0
    have b3 := bnd_rel (P := P) (w := w) hm r3 (lim' := 0) (Nat.le_refl _) .slice3Acap
    have hm0 : m' = 0 := by
      cases hmx : mx.map a.eval with
      | none => exact b3.2.1 hmx
      | some u => have := b3.2.2 u hmx; omega
    subst hm0
    have b2 := fun c => bnd_rel (P := P) (w := w) hh' r2 (lim' := 0) (Nat.le_refl _) c
    have hh0 : h' = 0 := by
      cases hhi : hi.map a.eval with
      | none => exact (b2 .sliceB).2.1 hhi
      | some u => have := (b2 .sliceB).2.2 u hhi; omega
    subst hh0
    have b1 := fun c => bnd_rel (P := P) (w := w) hl' r1 (lim' := 0) (Nat.le_refl _) c
    have hl0 : l' = 0 := by
      cases hlo : lo.map a.eval with
      | none => exact (b1 .sliceB).2.1 hlo
      | some u => have := (b1 .sliceB).2.2 u hlo; omega
    subst hl0
    have hbounds : (Instr.sliceBounds true 0 0 (lo.map a.eval) (hi.map a.eval) (mx.map a.eval)).run P w = .ok (0, 0, 0) w := by
      unfold Instr.sliceBounds
      cases hmx : mx.map a.eval with
      | some u =>
        have g3 := b3.1 u hmx
        cases hhi : hi.map a.eval with
        | none =>
          exfalso
          have h5 := hmh (by rw [hsame.1]; cases mx <;> simp at hmx ⊢)
          rw [hsame.2] at h5
          cases hi <;> simp at h5 hhi
        | some u2 =>
          have g2 := (b2 .slice3B).1 u2 hhi
          cases hlo : lo.map a.eval with
          | none => simp [g3, g2]
          | some u1 => have g1 := (b1 .slice3C).1 u1 hlo; simp [g3, g2, g1]
      | none =>
        cases hhi : hi.map a.eval with
        | none =>
          cases hlo : lo.map a.eval with
          | none => simp
          | some u1 => have g1 := (b1 .sliceB).1 u1 hlo; simp [g1]
        | some u2 =>
          have g2 := (b2 .sliceAcap).1 u2 hhi
          cases hlo : lo.map a.eval with
          | none => simp [g2]
          | some u1 => have g1 := (b1 .sliceB).1 u1 hlo; simp [g2, g1]
    refine Done.pure hh (x := .slice none 0 0) ?_ (by simp [VRel])
    simp [execOp, ho, e0, Instr.sliceAt, Instr.slice, run_underlying hu, hbounds, sizeOf, typeInfo, hj]
  | _ => rw [hv] at h; simp at h
end
end Go.Rx
