/-
  RxF: append; parts of strings; the greatest and the least; all operations together.
-/
import Derived.Test.YtophpmdlgphihapRxE
namespace Go.Rx
set_option linter.unusedVariables false
set_option linter.unusedSimpArgs false

section
variable {P : Program} {o : Oper} {a : Act} {nid : Nat} {ι : Nat → Option Ref} {H H' : Heap} {w : World} {τ : Nat → AV} {v : AV} (ht : TRel ι τ a.tmps) (hh : HRel ι H w)

/-- all cells of a slice -/
theorem row_rel {y : AV} {x : Value} (hh : HRel ι H w) (hx : VRel ι y x) (hs : y.isSlice = true) {cs : List AV} (h : H.row y = some cs) {es : Nat} (hl : cs.length = y.len * es) :
    ∃ ad c us, x = .slice ad y.len c ∧ VRelL ι cs us ∧ us.length = y.len * es ∧ (∀ b, ad = some b → ∀ j u, us[j]? = some u → w.cell? (b.add j) = some u) ∧ (ad = none → y.len = 0) := by
  cases y <;> simp only [AV.isSlice, Bool.false_eq_true] at hs
  · rename_i id off n cap es'
    simp only [VRel] at hx
    obtain ⟨r, a0, c0, hr, hv, hnc, _, _, hor⟩ := hx
    simp only [AV.len] at hl ⊢
    simp only [Heap.row] at h
    split at h
    · rename_i hn
      simp only [Option.some.injEq] at h; subst h; subst hn
      exact ⟨some a0, c0, [], hv, by simp [VRelL], by simp, by simp, by simp⟩
    · rename_i hn
      rcases hor with ⟨h1, _⟩ | ⟨h1, _⟩
      · exact absurd h1 hn
      · obtain ⟨r1, us, hr1, hrel, hlen, hcell⟩ := hh.read h
        rw [hr] at hr1; injection hr1 with e; subst e
        refine ⟨some a0, c0, us, hv, hrel, by rw [← hrel.length, hl], ?_, by simp⟩
        intro b hb j u hu
        injection hb with hb; subst hb
        rw [h1, add_lit]; exact hcell j u hu
  · simp only [VRel] at hx
    simp only [Heap.row, Option.some.injEq] at h; subst h
    exact ⟨none, 0, [], hx, by simp [VRelL], by simp [AV.len], by simp, by simp [AV.len]⟩

theorem ones {cs : List AV} {us : List Value} (h : VRelL ι cs us) (h1 : cs.all AV.one = true) : ∀ u ∈ us, u.oneCell' = true := by
  intro u hu
  obtain ⟨j, hj, rfl⟩ := List.mem_iff_getElem.1 hu
  have hj' : j < cs.length := by rw [h.length]; exact hj
  have := ((VRelL.iff _ _).1 h).2 j cs[j] us[j] (List.getElem?_eq_getElem hj') (List.getElem?_eq_getElem hj)
  exact AV.one_cell this (by rw [List.all_eq_true] at h1; exact h1 _ (List.getElem_mem hj'))

/-- append within the capacity, from wherever the slice begins -/
theorem run_append_within (t u ty e e' : TypeId) (i : TypeInfo) (ht : P.underlying t = some (.slice e)) (hu : P.underlying u = some (.slice e')) (hi : P.info? e = some i)
    (g off sLen sCap : Nat) (cur : Array Value) (et : TypeId) (hg : w.heap[g]? = some (.cells cur et (0, 0)))
    (ad : Option Addr) (m c : Nat) (news : List Value) (hl : news.length = m * i.size) (hnews : ∀ b, ad = some b → ∀ j u, news[j]? = some u → w.cell? (b.add j) = some u) (hnone : ad = none → m = 0) (h1 : ∀ u ∈ news, u.oneCell' = true)
    (hroom : sLen + m ≤ sCap) (hfit : off + sLen * i.size + news.length ≤ cur.size) :
    (Builtin.append_ #[t, u] ty #[.slice (some ⟨g, off, none⟩) sLen sCap, .slice ad m c]).run P w =
      .ok (.slice (some ⟨g, off, none⟩) (sLen + m) sCap) (w.setRow g (cur.toList.take (off + sLen * i.size) ++ news ++ cur.toList.drop (off + sLen * i.size + news.length)).toArray) := by
  have hst := run_storeCells_at P g (off + sLen * i.size) et news 0 cur w hg (by simpa using hfit) h1
  simp only [Nat.add_zero] at hst
  cases ad with
  | none =>
    have hm := hnone rfl
    subst hm
    have hn : news = [] := List.eq_nil_of_length_eq_zero (by simpa using hl)
    subst hn
    simp [Builtin.append_, run_underlying ht, run_underlying hu, sizeOf, typeInfo, hi, Builtin.lenOf, (show sLen ≤ sCap by omega), Builtin.firstCells, add_lit, hst]
  | some b =>
    have hf := run_firstCells_some (P := P) w i.size m b m c news hl (hnews b rfl)
    simp [Builtin.append_, run_underlying ht, run_underlying hu, sizeOf, typeInfo, hi, Builtin.lenOf, hroom, hf, add_lit, hst]

theorem grown_le (need old : Nat) (e : TypeId) : need ≤ grownCap w need old e := grownCap_ge w need old e

/-- append that makes a new row -/
theorem run_append_anew (t u ty e e' : TypeId) (i : TypeInfo) (z : Value) (ht : P.underlying t = some (.slice e)) (hu : P.underlying u = some (.slice e')) (hi : P.info? e = some i) (hz : i.zero = some z)
    (b : Option Addr) (sLen sCap : Nat) (olds : List Value) (hlo : olds.length = sLen * i.size) (holds : ∀ x, b = some x → ∀ j v, olds[j]? = some v → w.cell? (x.add j) = some v) (hbn : b = none → sLen = 0)
    (ad : Option Addr) (n c : Nat) (news : List Value) (hl : news.length = n * i.size) (hnews : ∀ x, ad = some x → ∀ j v, news[j]? = some v → w.cell? (x.add j) = some v) (hnone : ad = none → n = 0)
    (hg : sCap < sLen + n) (h63 : ((sLen + n : Nat) : Int) ≤ 9223372036854775807) (hb : (sLen + n) * i.bytes ≤ 140737488355328) :
    (Builtin.append_ #[t, u] ty #[.slice b sLen sCap, .slice ad n c]).run P w =
      .ok (.slice (some ⟨w.heap.size, 0, none⟩) (sLen + n) (grownCap w (sLen + n) sCap e))
        (w.drew.alloc (.cells (olds.toArray ++ news.toArray ++ Builtin.zeroCells z.cells (grownCap w (sLen + n) sCap e - (sLen + n))) e)) := by
  have hn : ¬ (sLen + n ≤ sCap) := by omega
  have h63' : ¬ (9223372036854775807 < ((sLen : Int) + (n : Int))) := by omega
  have h48' : ¬ (281474976710656 < Builtin.nextslicecap (sLen + n) sCap * i.bytes) := by have := growslice_fits hg hb; omega
  have hf : (Builtin.firstCells i.size n (.slice ad n c)).run P w.drew = .ok news.toArray w.drew := by
    cases ad with
    | none =>
      have hm := hnone rfl; subst hm
      have hn : news = [] := List.eq_nil_of_length_eq_zero (by simpa using hl)
      subst hn; simp [Builtin.firstCells]
    | some x => exact run_firstCells_some (P := P) w.drew i.size n x n c news hl (by simpa using hnews x rfl)
  have hfo : (Builtin.firstCells i.size sLen (.slice b sLen sCap)).run P w.drew = .ok olds.toArray w.drew := by
    cases b with
    | none =>
      have hm := hbn rfl; subst hm
      have hn : olds = [] := List.eq_nil_of_length_eq_zero (by simpa using hlo)
      subst hn; simp [Builtin.firstCells]
    | some x => exact run_firstCells_some (P := P) w.drew i.size sLen x sLen sCap olds hlo (by simpa using holds x rfl)
  simp [Builtin.append_, run_underlying ht, run_underlying hu, sizeOf, typeInfo, zeroValue, hi, hz, Builtin.lenOf, hn, h63', h48', Question.forced, hf, hfo, newRow, grownCap]
  congr 2
  apply Array.ext'
  simp [List.append_assoc]

include ht hh

theorem step_app {c : Call} {t u e e' : TypeId} {j : TypeInfo} {x y : Operand} {mx my : MX} {z : List AV} (ho : o.op = .call c) (hc : c.callee = .builtin .append) (ha : c.args = #[x, y]) (hta : c.argTypes = #[t, u])
    (hu : P.underlying t = some (.slice e)) (hu' : P.underlying u = some (.slice e')) (hj : P.info? e = some j) (hz : cZ P e = some z) (hx : cX x = some mx) (hy : cX y = some my) {r : AV}
    (h : mapp nid H (mx.ev τ) (my.ev τ) j.size j.bytes = some (r, H')) (hn : ι nid = none) (hn' : nid ≤ H.size) : Done P o a nid ι H w r H' := by
  obtain ⟨i, zv, hi, hzv, _, _, _, hzs⟩ := cZ_run (ι := ι) hz
  rw [hj] at hi; injection hi with hij; subst hij
  have e1 := ev_rel ht hx
  have e2 := ev_rel ht hy
  have hrun : ∀ v w', (Builtin.append_ #[t, u] o.type #[a.eval x, a.eval y]).run P w = .ok v w' → (execOp a.eval o).run P w = .ok (.value v) w' := by
    intro v w' h
    simp [execOp, ho, hc, ha, hta, resolve, invoke, builtin, h]
  unfold mapp at h
  split at h
  rotate_left
  · cases h
  rename_i hys
  split at h
  · cases h
  rename_i news hrow
  split at h
  rotate_left
  · cases h
  rename_i hcond
  obtain ⟨hnl, hone, hes⟩ := hcond
  obtain ⟨ad, c0, us, hyv, hrel, husl, hcell, hadn⟩ := row_rel hh e2 hys hrow hnl
  have h1s := ones hrel hone
  split at h
  · -- a nil slice
    rename_i hxv
    rw [hxv] at e1; simp only [VRel] at e1
    split at h
    · rename_i hm
      simp only [Option.some.injEq, Prod.mk.injEq] at h
      obtain ⟨rfl, rfl⟩ := h
      rw [hm] at hyv
      refine Done.pure hh (x := .slice none 0 0) (hrun _ _ ?_) (by simp [VRel])
      have hf : (Builtin.firstCells j.size 0 (.slice ad 0 c0)).run P w = .ok #[] w := by cases ad <;> simp [Builtin.firstCells, loadCells, loadCellsFrom]
      rw [e1, hyv]
      simp [Builtin.append_, run_underlying hu, run_underlying hu', sizeOf, typeInfo, hj, Builtin.lenOf, hf]
    · rename_i hm
      split at h
      · rename_i hb
        simp only [Option.some.injEq, Prod.mk.injEq] at h
        obtain ⟨rfl, rfl⟩ := h
        have hmax := hb.2
        unfold maxLen at hmax
        have hrun2 := run_append_anew (P := P) (w := w) t u o.type e e' j zv hu hu' hj hzv none 0 0 [] (by simp) (by simp) (by simp) ad (my.ev τ).len c0 us husl hcell hadn (by omega) (by omega) (by simpa using hb.1)
        rw [← e1, ← hyv] at hrun2
        have hge := grown_le (w := w) (0 + (my.ev τ).len) 0 e
        refine Done.alloc hh hn hn' (hrun _ _ hrun2) rfl rfl rfl rfl (vs := us) (rest := (Builtin.zeroCells zv.cells (grownCap w (0 + (my.ev τ).len) 0 e - (0 + (my.ev τ).len))).toList) hrel (by simp) ?_
        simp only [VRel]
        refine ⟨⟨w.heap.size, 0, _⟩, ⟨w.heap.size, 0, none⟩, grownCap w (0 + (my.ev τ).len) 0 e, by simp [Ref.with]; rfl, by rw [Nat.zero_add], by omega, grownCap_le_maxLen w _ 0 e (by rw [Nat.zero_add]; exact hb.2), by simp, .inr ⟨rfl, ?_⟩⟩
        have hk : (0 + (my.ev τ).len) * j.size + (grownCap w (0 + (my.ev τ).len) 0 e - (0 + (my.ev τ).len)) * j.size = grownCap w (0 + (my.ev τ).len) 0 e * j.size := by
          rw [← Nat.add_mul, Nat.add_sub_cancel' hge]
        simp only [Nat.zero_add] at hk
        simp only [Array.size_append, List.size_toArray, size_zeroCells, hzs, husl, List.length_nil, Nat.zero_add]
        omega
      · cases h
  · -- a slice
    rename_i id off n cap es' hxv
    split at h
    · rename_i hm
      simp only [Option.some.injEq, Prod.mk.injEq] at h
      obtain ⟨rfl, rfl⟩ := h
      rw [hm] at hyv
      refine Done.pure hh (x := a.eval x) (hrun _ _ ?_) e1
      rw [hxv] at e1; simp only [VRel] at e1
      obtain ⟨r0, a0, cc, hr0, hval, hnc, _⟩ := e1
      have hf : (Builtin.firstCells j.size 0 (.slice ad 0 c0)).run P w = .ok #[] w := by cases ad <;> simp [Builtin.firstCells, loadCells, loadCellsFrom]
      rw [hval, hyv]
      simp [Builtin.append_, run_underlying hu, run_underlying hu', sizeOf, typeInfo, hj, Builtin.lenOf, hf, hnc, storeCells]
    · rename_i hm
      split at h
      rotate_left
      · cases h
      rename_i hb
      obtain ⟨hb1, hb2, hes'⟩ := hb
      subst hes'
      split at h
      · cases h
      rename_i bk hbk
      split at h
      rotate_left
      · cases h
      rename_i hlen
      rw [hxv] at e1; simp only [VRel] at e1
      obtain ⟨r0, a0, cc, hr0, hval, hnc, hccm, hcap, hor⟩ := e1
      have hmax := hb2
      unfold maxLen at hmax
      have hid := hh.id_lt hbk
      -- the old cells
      have hread : ∃ olds, VRelL ι ((bk.cells.drop off).take (n * j.size)) olds ∧ (∀ x, some a0 = some x → ∀ i v, olds[i]? = some v → w.cell? (x.add i) = some v) := by
        by_cases hn0 : n = 0
        · subst hn0; exact ⟨[], by simp [VRelL], by simp⟩
        · have hrd : H.read (.ptr id off) (n * j.size) = some ((bk.cells.drop off).take (n * j.size)) := by simp [Heap.read, hbk, hlen]
          obtain ⟨r1, olds, hr1, hrel1, hlen1, hcell1⟩ := hh.read hrd
          rw [hr0] at hr1; injection hr1 with hrr; subst hrr
          refine ⟨olds, hrel1, ?_⟩
          intro x hx
          injection hx with hx; subst hx
          rcases hor with ⟨g, _⟩ | ⟨g, _⟩
          · exact absurd g hn0
          · intro i v hv; rw [g, add_lit]; exact hcell1 i v hv
      obtain ⟨olds, holdr, holdc⟩ := hread
      have hol : olds.length = n * j.size := by rw [← holdr.length]; simp; omega
      -- a new row
      have anew : cc < n + (my.ev τ).len → ∀ K : Heap, HRel ι K w → H.size ≤ K.size → (∀ i b, K.get i = some b → H.get i = some b) → K.ob = H.ob →
          Done P o a nid ι H w (.slice nid 0 (n + (my.ev τ).len) none j.size) (K.new nid (some ⟨true, (bk.cells.drop off).take (n * j.size) ++ news⟩)) := by
        intro hlt K hK hKs hsub hob
        have hrun2 := run_append_anew (P := P) (w := w) t u o.type e e' j zv hu hu' hj hzv (some a0) n cc olds hol holdc (by simp) ad (my.ev τ).len c0 us husl hcell hadn hlt (by omega) hb1
        rw [← hval, ← hyv] at hrun2
        have hge := grown_le (w := w) (n + (my.ev τ).len) cc e
        have hv2 : VRel (Ref.with ι nid ⟨w.heap.size, 0, (olds.toArray ++ us.toArray ++ Builtin.zeroCells zv.cells (grownCap w (n + (my.ev τ).len) cc e - (n + (my.ev τ).len))).size⟩) (.slice nid 0 (n + (my.ev τ).len) none j.size) (.slice (some ⟨w.heap.size, 0, none⟩) (n + (my.ev τ).len) (grownCap w (n + (my.ev τ).len) cc e)) := by
          simp only [VRel]
          refine ⟨⟨w.heap.size, 0, _⟩, ⟨w.heap.size, 0, none⟩, grownCap w (n + (my.ev τ).len) cc e, by simp [Ref.with]; rfl, rfl, by omega, grownCap_le_maxLen w _ cc e hb2, by simp, .inr ⟨rfl, ?_⟩⟩
          have hk : (n + (my.ev τ).len) * j.size + (grownCap w (n + (my.ev τ).len) cc e - (n + (my.ev τ).len)) * j.size = grownCap w (n + (my.ev τ).len) cc e * j.size := by
            rw [← Nat.add_mul, Nat.add_sub_cancel' hge]
          rw [Nat.add_mul] at hk
          simp only [Array.size_append, List.size_toArray, size_zeroCells, hzs, husl, hol]
          omega
        obtain ⟨g1, g2⟩ := hK.alloc hn (Nat.le_trans hn' hKs) (w1 := w.drew.alloc (.cells (olds.toArray ++ us.toArray ++ Builtin.zeroCells zv.cells (grownCap w (n + (my.ev τ).len) cc e - (n + (my.ev τ).len))) e)) rfl rfl rfl rfl (holdr.append hrel) (rest := (Builtin.zeroCells zv.cells (grownCap w (n + (my.ev τ).len) cc e - (n + (my.ev τ).len))).toList) (by simp)
        refine ⟨_, _, _, .inl (hrun _ _ hrun2), hv2, g1, ?_, fun id hid => by simp [Ref.with, hid]⟩
        exact ⟨g2.le, Nat.le_trans hKs g2.size, g2.wsize, g2.os, g2.tape, g2.output, fun k hk hne hno => g2.rows k hk (fun i b r h1 h2 h3 => hne i b r (hsub i b h1) h2 h3) (fun i o r h1 h2 => hno i o r (by rw [← hob]; exact h1) h2),
          fun i b r h1 h2 h3 => by
            rcases g2.news i b r h1 h2 h3 with h4 | ⟨i0, b0, r0, f1, f2, f3, f4⟩
            · exact .inl h4
            · exact .inr ⟨i0, b0, r0, hsub _ _ f1, f2, f3, f4⟩,
          fun i o r h1 h2 => by
            rcases g2.newo i o r h1 h2 with h4 | ⟨i0, o0, r0, f1, f2, f3⟩
            · exact .inl h4
            · exact .inr ⟨i0, o0, r0, by rw [← hob]; exact f1, f2, f3⟩⟩
      split at h
      · rename_i k
        split at h
        · rename_i hlt
          simp only [Option.some.injEq, Prod.mk.injEq] at h
          obtain ⟨rfl, rfl⟩ := h
          have := hcap k rfl
          exact anew (by omega) H hh (Nat.le_refl _) (fun _ _ h => h) rfl
        · cases h
      · split at h
        rotate_left
        · cases h
        rename_i hrw
        simp only [Option.some.injEq, Prod.mk.injEq] at h
        obtain ⟨rfl, rfl⟩ := h
        have hsub : ∀ i b, (H.put id none).get i = some b → H.get i = some b := by
          intro i b hb; rw [Heap.get_put] at hb; split at hb
          · cases hb
          · exact hb
        by_cases hfit : n + (my.ev τ).len ≤ cc
        · -- in place
          have hne0 : cc ≠ 0 := by omega
          rcases hor with ⟨_, g⟩ | ⟨g1, g2⟩
          · exact absurd g hne0
          obtain ⟨r1, hr1, hB⟩ := hh.blk id bk hbk
          rw [hr0] at hr1; injection hr1 with hrr; subst hrr
          unfold BlkRel at hB
          rw [hrw] at hB
          obtain ⟨cur, et, k1, k2, k3, k4⟩ := hB
          have hmul : n * j.size + (my.ev τ).len * j.size ≤ cc * j.size := by rw [← Nat.add_mul]; exact Nat.mul_le_mul_right _ hfit
          have hrun2 := run_append_within (P := P) (w := w) t u o.type e e' j hu hu' hj r0.row (r0.off + off) n cc cur et k1 ad (my.ev τ).len c0 us husl hcell hadn h1s hfit (by rw [husl]; omega)
          rw [← g1, ← hval, ← hyv] at hrun2
          have hg' := setRow_heap w r0.row cur (cur.toList.take (r0.off + off + n * j.size) ++ us ++ cur.toList.drop (r0.off + off + n * j.size + us.length)).toArray et (0, 0) k1
          have hsame : ∀ k, k ≠ r0.row → (w.setRow r0.row (cur.toList.take (r0.off + off + n * j.size) ++ us ++ cur.toList.drop (r0.off + off + n * j.size + us.length)).toArray).heap[k]? = w.heap[k]? := fun k hk => setRow_other w r0.row k _ hk
          have hK := hh.kill id hid
          have hnl' : news.length = us.length := hrel.length
          have hdl : ((bk.cells.drop off).take (n * j.size)).length = n * j.size := by simp; omega
          have hfree : ∀ i b r, (H.put id none).get i = some b → (b.rw = true ∨ b.cells ≠ []) → ι i = some r → r.row ≠ r0.row := by
            intro i b r h1 h2 h3
            rw [Heap.get_put] at h1
            split at h1
            · cases h1
            · rename_i hne
              intro hrow
              exact hne (hh.apart id bk r0 i b r hbk h1 hrw h2 hr0 h3 hrow.symm).symm
          have e3 : ((cur.toList.take (r0.off + off + n * j.size) ++ us ++ cur.toList.drop (r0.off + off + n * j.size + us.length)).drop (r0.off + off)).take (n * j.size + us.length) = (((cur.toList.drop r0.off).take bk.cells.length).drop off).take (n * j.size) ++ us := by
            apply List.ext_getElem?
            intro q
            simp only [List.getElem?_take, List.getElem?_drop, List.getElem?_append, List.length_take, List.length_append, List.length_drop, Array.length_toList]
            have m1 : min (r0.off + off + n * j.size) cur.size = r0.off + off + n * j.size := by omega
            have m2 : min (n * j.size) (min bk.cells.length (cur.size - r0.off) - off) = n * j.size := by omega
            simp only [m1, m2]
            by_cases hq : q < n * j.size
            · have q1 : q < n * j.size + us.length := by omega
              have q2 : r0.off + off + q < r0.off + off + n * j.size + us.length := by omega
              have q3 : r0.off + off + q < r0.off + off + n * j.size := by omega
              have q4 : off + q < bk.cells.length := by omega
              simp only [hq, q1, q2, q3, q4, if_true]
              congr 1; omega
            · by_cases hq2 : q < n * j.size + us.length
              · have q2 : r0.off + off + q < r0.off + off + n * j.size + us.length := by omega
                have q3 : ¬ r0.off + off + q < r0.off + off + n * j.size := by omega
                simp only [hq, hq2, q2, q3, if_true, if_false]
                congr 1; omega
              · have q5 : us[q - n * j.size]? = none := List.getElem?_eq_none (by omega)
                simp only [hq, hq2, if_false, q5]
          have hvnew : VRelL ι ((bk.cells.drop off).take (n * j.size) ++ news) (((cur.toList.take (r0.off + off + n * j.size) ++ us ++ cur.toList.drop (r0.off + off + n * j.size + us.length)).toArray.toList.drop (r0.off + off)).take ((bk.cells.drop off).take (n * j.size) ++ news).length) := by
            rw [List.length_append, hdl, hnl', List.toList_toArray, e3]
            exact VRelL.append ((k4.drop off).take _) hrel
          have hroom2 : r0.off + off + (r0.room - off) ≤ (cur.toList.take (r0.off + off + n * j.size) ++ us ++ cur.toList.drop (r0.off + off + n * j.size + us.length)).toArray.size := by
            simp only [List.size_toArray, List.length_append, List.length_take, List.length_drop, Array.length_toList, husl]; omega
          have hlen2 : ((bk.cells.drop off).take (n * j.size) ++ news).length ≤ r0.room - off := by rw [List.length_append, hdl, hnl', husl]; omega
          have hA := hK.adopt hn (Nat.le_trans hn' (Heap.size_le_put _ _ _)) hg' hsame hfree (fun o ho e => by rw [k1] at e; cases e; cases ho) (r := ⟨r0.row, r0.off + off, r0.room - off⟩) rfl hroom2 hlen2 hvnew
          refine ⟨_, _, _, .inl (hrun _ _ hrun2), ?_, hA, ?_, fun i hi => by simp [Ref.with, hi]⟩
          · simp only [VRel]
            refine ⟨⟨r0.row, r0.off + off, r0.room - off⟩, a0, cc, by simp [Ref.with], by rw [g1], hfit, hccm, by simp, .inr ⟨by rw [g1]; simp, by simp; omega⟩⟩
          · refine ⟨Ref.le_with _ hn, Heap.size_le_new (H.put id none) nid _, Nat.le_of_eq (size_setRow w _ _).symm, rfl, rfl, rfl, ?_, ?_, fun i o r h1 h2 => ?_⟩
            rotate_left 2
            · obtain ⟨r1, f1, f2⟩ := hh.obs i o h1
              have f3 := Ref.le_with (ι := ι) ⟨r0.row, r0.off + off, r0.room - off⟩ hn _ _ f1
              rw [f3] at h2; injection h2 with f4; subst f4
              exact .inr ⟨i, o, r1, h1, f1, rfl⟩
            · intro k hk hne _
              exact hsame k (fun e => hne id bk r0 hbk hrw hr0 e.symm)
            · intro i b r h1 h2 h3
              rw [Heap.get_new] at h1
              unfold Ref.with at h3
              split at h1
              · rename_i hi; rw [if_pos hi] at h3; injection h3 with h3; subst h3
                exact .inr ⟨id, bk, r0, hbk, hrw, hr0, rfl⟩
              · rename_i hi; rw [if_neg hi] at h3
                exact .inr ⟨i, b, r, hsub _ _ h1, h2, h3, rfl⟩
        · exact anew (by omega) (H.put id none) (hh.kill id hid) (Heap.size_le_put _ _ _) hsub rfl
  · cases h

theorem step_sls {t : TypeId} {x : Operand} {lo hi : Option Operand} {m : MX} {mlo mhi : Option MX} (ho : o.op = .slice t x lo hi none) (hu : P.underlying t = some .string) (hx : cX x = some m) (h1 : cO lo = some mlo) (h2 : cO hi = some mhi)
    {r : AV} (h : msls (m.ev τ) (mlo.map (·.ev τ)) (mhi.map (·.ev τ)) = some r) : Done P o a nid ι H w r H := by
  have e0 := ev_rel ht hx
  have r1 := cO_rel ht h1
  have r2 := cO_rel ht h2
  generalize mlo.map (·.ev τ) = alo at h r1
  generalize mhi.map (·.ev τ) = ahi at h r2
  unfold msls at h
  split at h
  rotate_left
  · cases h
  rename_i s hv
  rw [hv] at e0; simp only [VRel] at e0
  split at h
  · cases h
  rename_i h' hh'
  split at h
  · cases h
  rename_i l' hl'
  simp only [Option.some.injEq] at h; subst h
  have b2 := bnd_rel (P := P) (w := w) hh' r2 (lim' := s.length) (Nat.le_refl _) .sliceAlen
  have b1 := bnd_rel (P := P) (w := w) hl' r1 (lim' := h') (Nat.le_refl _) .sliceB
  have hbounds : (Instr.sliceBounds false s.length s.length (lo.map a.eval) (hi.map a.eval) none).run P w = .ok (l', h', s.length) w := by
    unfold Instr.sliceBounds
    cases hhi : hi.map a.eval with
    | none =>
      have g2 := b2.2.1 hhi
      cases hlo : lo.map a.eval with
      | none => have g1 := b1.2.1 hlo; simp [g1, g2]
      | some u1 => have g1 := b1.1 u1 hlo; rw [g2] at g1; simp [g1, g2]
    | some u2 =>
      have g2 := b2.1 u2 hhi
      cases hlo : lo.map a.eval with
      | none => have g1 := b1.2.1 hlo; simp [g1, g2]
      | some u1 => have g1 := b1.1 u1 hlo; simp [g1, g2]
  have hsz := size_mk s
  refine Done.pure hh (x := .string ((ByteArray.mk s.toArray).extract l' h')) ?_ ?_
  · simp [execOp, ho, e0, Instr.sliceAt, Instr.slice, run_underlying hu, hsz, hbounds]
  · simp only [VRel]
    congr 1
    apply Go.WideShapes.bytes_inj
    simp [ByteArray.data_extract, List.drop_take]

omit ht hh in
theorem mfold_rel {mx : Bool} : ∀ (l : List AV) (x r : AV) (u : Value) (us : List Value), mfold mx x l = some r → VRel ι x u → VRelL ι l us →
    ∃ z, (us.foldlM (if mx = true then Builtin.max2 else Builtin.min2) u).run P w = .ok z w ∧ VRel ι r z
  | [], x, r, u, us, h, hx, hl => by
    cases x <;> simp only [mfold, Option.some.injEq, reduceCtorEq] at h
    subst h
    simp only [VRelL] at hl; subst hl
    exact ⟨u, by simp, hx⟩
  | y :: l, x, r, u, us, h, hx, hl => by
    cases x <;> cases y <;> simp only [mfold, reduceCtorEq] at h
    split at h
    · rename_i k a' k' b' hk
      subst hk
      simp only [VRelL] at hl
      obtain ⟨u1, us', rfl, hu1, hl'⟩ := hl
      simp only [VRel] at hx hu1
      subst hx; subst hu1
      obtain ⟨z, hz, hr⟩ := mfold_rel l _ r (.int k (if mx = true then if b' > a' then b' else a' else if b' < a' then b' else a')) us' h (by simp [VRel]) hl'
      refine ⟨z, ?_, hr⟩
      cases mx
      · simp only [List.foldlM_cons, Bool.false_eq_true, if_false, Builtin.min2, Sem.run_bind, Sem.run_pure, Result.andThen_ok] at hz ⊢; exact hz
      · simp only [List.foldlM_cons, if_true, Builtin.max2, Sem.run_bind, Sem.run_pure, Result.andThen_ok] at hz ⊢; exact hz
    · cases h

theorem step_mnmx {c : Call} {mx : Bool} {x : Operand} {ys : List Operand} {m : MX} {ms : List MX} (ho : o.op = .call c) (hc : c.callee = .builtin (if mx = true then .max else .min)) (ha : c.args.toList = x :: ys) (hx : cX x = some m) (hy : cXs ys = some ms) {r : AV}
    (h : mfold mx (m.ev τ) (ms.map (·.ev τ)) = some r) : Done P o a nid ι H w r H := by
  have e0 := ev_rel ht hx
  have e1 := evs_rel ht hy
  obtain ⟨z, hz, hr⟩ := mfold_rel (P := P) (w := w) _ _ _ _ _ h e0 e1
  refine Done.pure hh (x := z) ?_ hr
  have ha' : (c.args.map a.eval).toList = a.eval x :: ys.map a.eval := by simp [ha]
  cases mx
  · simp only [Bool.false_eq_true, if_false] at hc hz
    simp only [execOp, ho, hc, resolve, invoke, builtin, Builtin.min_, Sem.run_bind, Sem.run_pure, Result.andThen_ok, ha', hz]
  · simp only [if_true] at hc hz
    simp only [execOp, ho, hc, resolve, invoke, builtin, Builtin.max_, Sem.run_bind, Sem.run_pure, Result.andThen_ok, ha', hz]
end

/-- a call is looked at elsewhere -/
def MOp.isCall : MOp → Bool
  | .call .. | .callv .. | .inv .. | .mq _ => true
  | _ => false

section
variable {P : Program} {w : World}
theorem run_forIn {β : Type} (body : β → Option Bool × Unit → Sem (ForInStep (Option Bool × Unit))) : ∀ (l : List β) (bs : List Bool), l.length = bs.length → (∀ (i : Nat) (p : β) (b : Bool), l[i]? = some p → bs[i]? = some b → ∀ s, (body p s).run P w = .ok (if b = true then .yield (none, ()) else .done (some false, ())) w) →
    (forIn l ((none : Option Bool), ()) body).run P w = .ok (if bs.all id = true then (none, ()) else (some false, ())) w
  | [], [], _, _ => by simp
  | [], _ :: _, h, _ => by simp at h
  | _ :: _, [], h, _ => by simp at h
  | p :: l, b :: bs, hl, h => by
    have h0 := h 0 p b rfl rfl (none, ())
    have ih := run_forIn body l bs (by simpa using hl) (fun i p b h1 h2 => h (i + 1) p b (by simpa using h1) (by simpa using h2))
    simp only [List.forIn_cons, Sem.run_bind, h0, Result.andThen_ok]
    cases b with
    | true => simpa using ih
    | false => simp

theorem run_equal_int {t : TypeId} (h : isIntT P t = true) (d : Nat) (k : IntKind) (a b : Int) : (Op.equalIn (d + 1) t (.int k a) (.int k b)).run P w = .ok (a == b) w := by
  unfold isIntT at h
  split at h
  · rename_i k' hu
    rw [Op.equalIn]
    simp [run_underlying hu]
  · cases h

theorem flatEq_length : ∀ {cs ds : List AV} {b : Bool}, flatEq cs ds = some b → cs.length = ds.length
  | [], [], _, _ => rfl
  | [], y :: r, _, h => by simp [flatEq] at h
  | x :: r, [], _, h => by cases x <;> simp [flatEq] at h
  | x :: r, y :: r', b, h => by
    cases x <;> try (simp [flatEq] at h; done)
    cases y <;> try (simp [flatEq] at h; done)
    simp only [flatEq] at h
    split at h
    · simp only [Option.map_eq_some_iff] at h
      obtain ⟨b', hb', _⟩ := h
      simp only [List.length_cons, flatEq_length hb']
    · cases h
theorem flatEq_split : ∀ (m : Nat) {cs ds : List AV} {b : Bool}, flatEq cs ds = some b → ∃ b1 b2, flatEq (cs.take m) (ds.take m) = some b1 ∧ flatEq (cs.drop m) (ds.drop m) = some b2 ∧ b = (b1 && b2)
  | 0, cs, ds, b, h => ⟨true, b, by simp [flatEq], by simpa using h, by simp⟩
  | m + 1, [], [], b, h => ⟨true, b, by simp [flatEq], by simpa using h, by simp⟩
  | m + 1, [], y :: r, _, h => by simp [flatEq] at h
  | m + 1, x :: r, [], _, h => by cases x <;> simp [flatEq] at h
  | m + 1, x :: r, y :: r', b, h => by
    cases x <;> try (simp [flatEq] at h; done)
    cases y <;> try (simp [flatEq] at h; done)
    simp only [flatEq] at h
    split at h
    · rename_i hk
      simp only [Option.map_eq_some_iff] at h
      obtain ⟨b', hb', rfl⟩ := h
      obtain ⟨b1, b2, h1, h2, rfl⟩ := flatEq_split m hb'
      refine ⟨_ && b1, b2, ?_, by simpa using h2, by rw [Bool.and_assoc]⟩
      rotate_left
      · simp only [List.take_succ_cons, flatEq]
        rw [if_pos hk, h1, Option.map_some]
    · cases h

/-- values of a type that has whole numbers alone are compared cell by cell -/
def EqAt (P : Program) (w : World) (k : Nat) (t : TypeId) (n : Nat) (ag : Bool) : Prop :=
  ∀ (ι : Nat → Option Ref) (l l' : List AV) (r r' : AV) (z z' : Value) (b : Bool), l.length = n → flatEq l l' = some b → packC ag l = some r → packC ag l' = some r' → VRel ι r z → VRel ι r' z' → (Op.equalIn k t z z').run P w = .ok b w

theorem partsT_le {F : TypeId → Option Nat} : ∀ {parts : List (TypeId × Nat)} {o n : Nat}, partsT P F o parts = some n → o ≤ n
  | [], o, n, h => by simp only [partsT, Option.some.injEq] at h; omega
  | (t, p) :: r, o, n, h => by
    simp only [partsT] at h
    split at h
    · split at h
      · have := partsT_le h; omega
      · cases h
    · cases h

theorem packC_some {ag : Bool} {l : List AV} (h : ag = true ∨ l.length = 1) : ∃ r, packC ag l = some r := by
  cases l with
  | nil => rcases h with h | h
           · subst h; exact ⟨_, rfl⟩
           · simp at h
  | cons a r => cases r with
    | nil => exact ⟨_, rfl⟩
    | cons b r => rcases h with h | h
                  · subst h; exact ⟨_, rfl⟩
                  · simp at h

theorem parts_run {ι : Nat → Option Ref} {xs ys : Array Value} {cs ds : List AV} (hc : VRelL ι cs xs.toList) (hd : VRelL ι ds ys.toList) (hdl : ds.length = cs.length) (k : Nat) (F : TypeId → Option Nat) (hF : ∀ t m ag, F t = some m → cT P t = some (m, ag) → (ag = true ∨ m = 1) → EqAt P w k t m ag) :
    ∀ (parts : List (TypeId × Nat)) (o n : Nat) (b : Bool), partsT P F o parts = some n → cs.length = n → flatEq (cs.drop o) (ds.drop o) = some b →
    ∃ bs : List Bool, bs.all id = b ∧ parts.length = bs.length ∧ ∀ (i : Nat) (p : TypeId × Nat) (bb : Bool), parts[i]? = some p → bs[i]? = some bb → ∃ z1 z2, (part p.1 xs p.2).run P w = .ok z1 w ∧ (part p.1 ys p.2).run P w = .ok z2 w ∧ (Op.equalIn k p.1 z1 z2).run P w = .ok bb w
  | [], o, n, b, hp, hl, he => by
    simp only [partsT, Option.some.injEq] at hp
    have h1 : cs.drop o = [] := List.drop_eq_nil_of_le (by omega)
    have h2 := flatEq_length he
    rw [h1] at he h2
    have h3 : ds.drop o = [] := List.eq_nil_of_length_eq_zero h2.symm
    rw [h3] at he
    simp only [flatEq, Option.some.injEq] at he
    subst he
    exact ⟨[], rfl, rfl, by simp⟩
  | (t, p) :: parts, o, n, b, hp, hl, he => by
    simp only [partsT] at hp
    split at hp
    · rename_i m m' ag hm hT
      split at hp
      · rename_i hcond
        obtain ⟨rfl, rfl, hag⟩ := hcond
        have hle : p + m' ≤ n := partsT_le hp
        obtain ⟨b1, b2, h1, h2, rfl⟩ := flatEq_split m' he
        rw [List.drop_drop, List.drop_drop] at h2
        obtain ⟨bs, g1, g2, g3⟩ := parts_run hc hd hdl k F hF parts (p + m') n b2 hp hl h2
        have hlen : ((cs.drop p).take m').length = m' := by simp; omega
        have hlen2 : ((ds.drop p).take m').length = m' := by simp; omega
        obtain ⟨r1, k1⟩ := packC_some (ag := ag) (l := (cs.drop p).take m') (hag.imp id (fun h => by omega))
        obtain ⟨r2, k2⟩ := packC_some (ag := ag) (l := (ds.drop p).take m') (hag.imp id (fun h => by omega))
        obtain ⟨z1, q1, q2⟩ := part_rel (P := P) (w := w) hT hc (off := p) (by omega) k1
        obtain ⟨z2, q3, q4⟩ := part_rel (P := P) (w := w) hT hd (off := p) (by omega) k2
        have heq := hF t m' ag hm hT hag ι _ _ r1 r2 z1 z2 b1 hlen h1 k1 k2 q2 q4
        refine ⟨b1 :: bs, by simp [g1], by simp [g2], ?_⟩
        intro i p' bb hi hbi
        cases i with
        | zero =>
          simp only [List.getElem?_cons_zero, Option.some.injEq] at hi hbi
          subst hi; subst hbi
          exact ⟨z1, z2, q1, q3, heq⟩
        | succ i => exact g3 i p' bb (by simpa using hi) (by simpa using hbi)
      · cases hp
    · cases hp

theorem cT_ag {t : TypeId} {n : Nat} {ag : Bool} (h : cT P t = some (n, ag)) : ag = (match P.underlying t with | some (.struct _) | some (.array _ _) => true | _ => false) := by
  unfold cT at h
  split at h
  · rename_i i d hi hd
    simp only [Option.some.injEq, Prod.mk.injEq] at h
    rw [hd, ← h.2]
    cases d <;> rfl
  · cases h

theorem flat_agg (d k : Nat) (hF : ∀ t m ag, flatT P d t = some m → cT P t = some (m, ag) → (ag = true ∨ m = 1) → EqAt P w k t m ag) {t : TypeId} {n : Nat} (h : flatT P (d + 1) t = some n) (hu : (∃ k e, P.underlying t = some (.array k e)) ∨ ∃ fs, P.underlying t = some (.struct fs)) {ι : Nat → Option Ref} {xs ys : Array Value} {l l' : List AV} {b : Bool} (hc : VRelL ι l xs.toList) (hd : VRelL ι l' ys.toList) (he : flatEq l l' = some b) (hl : l.length = n) :
    (Op.equalIn (k + 1) t (.agg xs) (.agg ys)).run P w = .ok b w := by
  simp only [flatT] at h
  rcases hu with ⟨len, e, hu⟩ | ⟨fs, hu⟩
  · rw [hu] at h
    simp only at h
    split at h
    · rename_i m ag' hTe
      obtain ⟨bs, g1, g2, g3⟩ := parts_run (P := P) (w := w) hc hd (flatEq_length he).symm k (flatT P d) hF _ 0 n b h hl (by simpa using he)
      rw [Op.equalIn]
      simp [run_underlying hu, (cT_run (w := w) hTe).1]
      rw [run_forIn _ _ bs (by simpa using g2)]
      · rw [g1]; cases b <;> simp
      · intro i f bb hi' hbi s
        have hif : f = i := by
          have := (List.getElem?_eq_some_iff.1 hi').2
          simp at this; omega
        obtain ⟨z1, z2, k1, k2, k3⟩ := g3 i (e, i * m) bb (by
          have hlt : i < len := by
            have := (List.getElem?_eq_some_iff.1 hi').1
            simpa using this
          simp [hlt]) hbi
        subst hif
        simp only at k1 k2 k3
        simp only [Sem.run_bind, k1, k2, k3, Result.andThen_ok]
        cases bb <;> simp
    · cases h
  · rw [hu] at h
    simp only at h
    split at h
    · rename_i hcond
      obtain ⟨bs, g1, g2, g3⟩ := parts_run (P := P) (w := w) hc hd (flatEq_length he).symm k (flatT P d) hF _ 0 n b h hl (by simpa using he)
      rw [Op.equalIn]
      simp only [run_underlying hu, hcond.1, Sem.run_bind, Result.andThen_ok]
      simp [hcond.1, run_underlying hu]
      rw [← Array.forIn_toList, run_forIn _ _ bs (by simpa using g2)]
      · rw [g1]; cases b <;> simp
      · intro i f bb hi hbi s
        have hne := List.all_eq_true.1 hcond.2 f (List.mem_of_getElem? hi)
        simp only [bne_iff_ne, ne_eq] at hne
        obtain ⟨z1, z2, k1, k2, k3⟩ := g3 i (f.type, f.offset) bb (by rw [List.getElem?_map, hi]; rfl) hbi
        simp only [if_neg hne, Sem.run_bind, k1, k2, k3, Result.andThen_ok]
        cases bb <;> simp
    · cases h

theorem flat_eq : ∀ (d j : Nat) (t : TypeId) (n : Nat) (ag : Bool), flatT P d t = some n → cT P t = some (n, ag) → (ag = true ∨ n = 1) → EqAt P w (d + j) t n ag
  | 0, j, t, n, ag, h, _, _ => by simp [flatT] at h
  | d + 1, j, t, n, ag, h, hT, hag => by
    have hk : d + 1 + j = d + j + 1 := by omega
    rw [hk]
    have hag2 := cT_ag hT
    have hfull := h
    simp only [flatT] at h
    split at h
    · rename_i k hu
      rw [hu] at hag2
      simp only at hag2
      subst hag2
      rcases hag with hag | hag
      · cases hag
      subst hag
      intro ι l l' r r' z z' b hl he hr hr' hz hz'
      have hl' := flatEq_length he
      obtain ⟨a, rfl⟩ : ∃ a, l = [a] := List.length_eq_one_iff.1 hl
      obtain ⟨a', rfl⟩ : ∃ a, l' = [a] := List.length_eq_one_iff.1 (by omega)
      simp only [packC, Bool.false_eq_true, if_false, Option.some.injEq] at hr hr'
      subst hr; subst hr'
      cases a <;> try (simp [flatEq] at he; done)
      cases a' <;> try (simp [flatEq] at he; done)
      simp only [flatEq] at he
      split at he
      · rename_i hk; subst hk
        simp only [Option.map_some, Option.some.injEq, Bool.and_true] at he
        subst he
        simp only [VRel] at hz hz'
        rw [hz, hz']
        exact run_equal_int (by unfold isIntT; rw [hu]) _ _ _ _
      · cases he
    · rename_i len e hu
      rw [hu] at hag2
      simp only at hag2
      subst hag2
      split at h
      · rename_i m ag' hTe
        intro ι l l' r r' z z' b hl he hr hr' hz hz'
        have e1 : r = .agg l := by cases l with
          | nil => simp [packC] at hr; exact hr.symm
          | cons x l => cases l <;> (simp [packC] at hr; exact hr.symm)
        have e2 : r' = .agg l' := by cases l' with
          | nil => simp [packC] at hr'; exact hr'.symm
          | cons x l => cases l <;> (simp [packC] at hr'; exact hr'.symm)
        subst e1; subst e2
        simp only [VRel] at hz hz'
        obtain ⟨xs, rfl, hc⟩ := hz
        obtain ⟨ys, rfl, hd⟩ := hz'
        exact flat_agg d (d + j) (fun t m ag h1 h2 h3 => flat_eq d j t m ag h1 h2 h3) hfull (.inl ⟨_, _, hu⟩) hc hd he hl
      · cases h
    · rename_i fs hu
      rw [hu] at hag2
      simp only at hag2
      subst hag2
      split at h
      · rename_i hcond
        intro ι l l' r r' z z' b hl he hr hr' hz hz'
        have e1 : r = .agg l := by cases l with
          | nil => simp [packC] at hr; exact hr.symm
          | cons x l => cases l <;> (simp [packC] at hr; exact hr.symm)
        have e2 : r' = .agg l' := by cases l' with
          | nil => simp [packC] at hr'; exact hr'.symm
          | cons x l => cases l <;> (simp [packC] at hr'; exact hr'.symm)
        subst e1; subst e2
        simp only [VRel] at hz hz'
        obtain ⟨xs, rfl, hc⟩ := hz
        obtain ⟨ys, rfl, hd⟩ := hz'
        exact flat_agg d (d + j) (fun t m ag h1 h2 h3 => flat_eq d j t m ag h1 h2 h3) hfull (.inr ⟨_, hu⟩) hc hd he hl
      · cases h
    · cases h

theorem flat_top {t : TypeId} {n : Nat} (hfl : flatT P 9 t = some n) (hu : (∃ k e, P.underlying t = some (.array k e)) ∨ ∃ fs, P.underlying t = some (.struct fs)) {ι : Nat → Option Ref} {xs ys : Array Value} {cs ds : List AV} {b : Bool} (hc : VRelL ι cs xs.toList) (hd : VRelL ι ds ys.toList) (he : flatEq cs ds = some b) (hl : cs.length = n) :
    (Op.equalIn (9998 + 1 + 1) t (.agg xs) (.agg ys)).run P w = .ok b w :=
  flat_agg 8 9999 (fun t m ag h1 h2 h3 => flat_eq 8 9991 t m ag h1 h2 h3) hfl hu hc hd he hl
end

end Go.Rx
