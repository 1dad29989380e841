/-
  RxG: every operation that is taken up does what its abstract one does.
-/
import Derived.Test.YtophpmdlgphihapRxF
namespace Go.Rx
set_option linter.unusedVariables false
set_option linter.unusedSimpArgs false

section
variable {P : Program} {o : Oper} {a : Act} {nid : Nat} {ι : Nat → Option Ref} {H H' : Heap} {w : World} {τ : Nat → AV}

theorem step_ageq {neg : Bool} {n : Nat} {t t' : TypeId} {x y : Operand} {mx my : MX} (ht : TRel ι τ a.tmps) (hh : HRel ι H w) (ho : o.op = .binOp (if neg = true then .neq else .eql) t x y t') (hx : cX x = some mx) (hy : cX y = some my)
    (hg : P.eqGuardType P.depth t = false) (heq : ∀ (cs ds : List AV) (xs ys : Array Value) (b : Bool), VRelL ι cs xs.toList → VRelL ι ds ys.toList → flatEq cs ds = some b → cs.length = n → (Op.equalIn (9998 + 1 + 1) t (.agg xs) (.agg ys)).run P w = .ok b w)
    {r : AV} (h : mstep nid τ H (.ageq neg n mx my) = some (r, H')) : Done P o a nid ι H w r H' := by
  have e1 := ev_rel ht hx
  have e2 := ev_rel ht hy
  simp only [mstep] at h
  split at h
  · rename_i cs ds h1 h2
    split at h
    · rename_i hl
      simp only [Option.map_eq_some_iff, Prod.mk.injEq] at h
      obtain ⟨b, hb, rfl, rfl⟩ := h
      rw [h1] at e1; rw [h2] at e2
      simp only [VRel] at e1 e2
      obtain ⟨xs, hxs, hc⟩ := e1
      obtain ⟨ys, hys, hd⟩ := e2
      have hq := heq cs ds xs ys b hc hd hb hl
      have hq' : (Op.equal t (.agg xs) (.agg ys)).run P w = .ok b w := hq
      refine Done.pure hh (x := .bool (if neg = true then !b else b)) ?_ (by simp [VRel])
      cases neg <;> simp [execOp, ho, hxs, hys, eqGuard, binOp, hq', hg]
    · cases h
  · cases h

theorem step_cap0 {c : Call} {t e : TypeId} {x : Operand} {mx : MX} (ht : TRel ι τ a.tmps) (hh : HRel ι H w) (ho : o.op = .call c) (hc : c.callee = .builtin .cap) (ha : c.args = #[x]) (hta : c.argTypes = #[t]) (hu : P.underlying t = some (.slice e)) (hx : cX x = some mx)
    (h : mx.ev τ = .nilSlice) : Done P o a nid ι H w (.int .i64 0) H := by
  have e1 := ev_rel ht hx
  rw [h] at e1; simp only [VRel] at e1
  exact Done.pure hh (x := .int .i64 0) (by simp [execOp, ho, hc, ha, hta, resolve, invoke, builtin, e1, Builtin.cap_, run_underlying hu, goInt]) (by simp [VRel])

theorem run_append_zeros (t u ty e : TypeId) (i : TypeInfo) (z : Value) (ht : P.underlying t = some (.slice e)) (hu : P.underlying u = some (.int .i64)) (hi : P.info? e = some i) (hz : i.zero = some z)
    (n : Nat) (h0 : 0 < n) (hs : 0 < i.size) (h63 : ((n : Nat) : Int) ≤ 9223372036854775807) (hb : n * i.bytes ≤ 140737488355328) :
    (Builtin.append_ #[t, u] ty #[.slice none 0 0, .int .i64 n]).run P w =
      .ok (.slice (some ⟨w.heap.size, 0, none⟩) n (grownCap w n 0 e))
        (w.drew.alloc (.cells (Builtin.zeroCells z.cells n ++ Builtin.zeroCells z.cells (grownCap w n 0 e - n)) e)) := by
  have hn : ¬ n = 0 := by omega
  have hw : IntKind.i64.wrap (n : Int) = n := by simp [IntKind.wrap, IntKind.bits, IntKind.signed]; omega
  have h63' : ¬ (9223372036854775807 < (n : Int)) := by omega
  have h48 : ¬ (281474976710656 < n * i.bytes) := by omega
  have hg : 0 < 0 + n := by omega
  have h48' : ¬ (281474976710656 < Builtin.nextslicecap n 0 * i.bytes) := by have := growslice_fits (old := 0) h0 hb; omega
  have h48i : ¬ ((281474976710656 : Int) < (n : Int) * (i.bytes : Int)) := by
    have hx : ((n * i.bytes : Nat) : Int) ≤ 140737488355328 := by omega
    rw [Int.natCast_mul] at hx; omega
  have hneg : ¬ ((n : Int) < 0) := by omega
  have hns : ¬ (n * i.size = 0) := by have := Nat.mul_pos h0 hs; omega
  simp [Builtin.append_, run_underlying ht, run_underlying hu, sizeOf, typeInfo, zeroValue, hi, hz, asInt, asIntOf, hw, hn, (show ¬ (i.size = 0) by omega), hneg, h63', h48, h48i, h48', Question.forced, Builtin.firstCells, newRow, grownCap]
  intro h; exact absurd h hns

theorem step_app0 {c : Call} {t u e : TypeId} {j : TypeInfo} {x y : Operand} {mx my : MX} {z : List AV} (ht : TRel ι τ a.tmps) (hh : HRel ι H w) (ho : o.op = .call c) (hc : c.callee = .builtin .append) (ha : c.args = #[x, y]) (hta : c.argTypes = #[t, u])
    (hu : P.underlying t = some (.slice e)) (hu' : P.underlying u = some (.int .i64)) (hj : P.info? e = some j) (hz : cZ P e = some z) (hx : cX x = some mx) (hy : cX y = some my) (hxv : mx.ev τ = .nilSlice) {l : Int} (hyv : my.ev τ = .int .i64 l)
    (hb : 0 < l ∧ 0 < j.size ∧ l.toNat * j.bytes ≤ 140737488355328 ∧ l.toNat ≤ maxLen) (hn : ι nid = none) (hn' : nid ≤ H.size) : Done P o a nid ι H w (.slice nid 0 l.toNat none j.size) (H.new nid (some ⟨true, zrep z (l.toNat * j.size)⟩)) := by
  have e1 := ev_rel ht hx
  have e2 := ev_rel ht hy
  rw [hxv] at e1; rw [hyv] at e2; simp only [VRel] at e1 e2
  obtain ⟨i, v, hi, hv, hr, hone, hzl, hvs⟩ := cZ_run (ι := ι) hz
  rw [hj] at hi; injection hi with hij; subst hij
  obtain ⟨n, rfl⟩ : ∃ n : Nat, l = n := ⟨l.toNat, by omega⟩
  simp only [Int.toNat_natCast] at hb ⊢
  obtain ⟨b1, b2, b3, b4⟩ := hb
  have hmax := b4
  unfold maxLen at hmax
  have hrun := run_append_zeros (P := P) (w := w) t u o.type e j v hu hu' hj hv n (by omega) b2 (by omega) b3
  rw [← e1, ← e2] at hrun
  have hge := grown_le (w := w) n 0 e
  have hrep := zrep_rel hr (by omega) (by omega) (n * j.size)
  have hmade : madeCells v.cells (n * j.size) = Builtin.zeroCells v.cells n := by simp [madeCells, Builtin.zeroCells, hvs]
  rw [hmade] at hrep
  refine Done.alloc hh hn hn' (w1 := w.drew.alloc (.cells (Builtin.zeroCells v.cells n ++ Builtin.zeroCells v.cells (grownCap w n 0 e - n)) e)) (c := Builtin.zeroCells v.cells n ++ Builtin.zeroCells v.cells (grownCap w n 0 e - n)) (e := e)
    (vs := (Builtin.zeroCells v.cells n).toList) (rest := (Builtin.zeroCells v.cells (grownCap w n 0 e - n)).toList) (x := .slice (some ⟨w.heap.size, 0, none⟩) n (grownCap w n 0 e)) ?_ rfl rfl rfl rfl hrep (by simp) ?_
  · simp [execOp, ho, hc, ha, hta, resolve, invoke, builtin, hrun]
  · simp only [VRel]
    refine ⟨⟨w.heap.size, 0, _⟩, ⟨w.heap.size, 0, none⟩, grownCap w n 0 e, by simp [Ref.with]; rfl, rfl, hge, grownCap_le_maxLen w _ 0 e b4, by simp, .inr ⟨rfl, ?_⟩⟩
    have hk : n * j.size + (grownCap w n 0 e - n) * j.size = grownCap w n 0 e * j.size := by
      rw [← Nat.add_mul, Nat.add_sub_cancel' hge]
    simp only [Array.size_append, size_zeroCells, hvs, Nat.zero_add]
    omega

theorem step_cpy {c : Call} {t u e : TypeId} {j : TypeInfo} {x y : Operand} {mx my : MX} (ht : TRel ι τ a.tmps) (hh : HRel ι H w) (ho : o.op = .call c) (hc : c.callee = .builtin .copy) (ha : c.args = #[x, y]) (hta : c.argTypes = #[t, u])
    (hu : P.underlying t = some (.slice e)) (hj : P.info? e = some j) (hx : cX x = some mx) (hy : cX y = some my) {r : AV} (h : mstep nid τ H (.cpy mx my j.size) = some (r, H')) : Done P o a nid ι H w r H' := by
  have e1 := ev_rel ht hx
  have e2 := ev_rel ht hy
  have hrun : ∀ v w', (Builtin.copy_ #[t, u] o.type #[a.eval x, a.eval y]).run P w = .ok v w' → (execOp a.eval o).run P w = .ok (.value v) w' := by
    intro v w' h
    simp [execOp, ho, hc, ha, hta, resolve, invoke, builtin, h]
  simp only [mstep] at h
  split at h
  rotate_left
  · cases h
  rename_i hys
  split at h
  · rename_i cs id off n cap es' hrow hxv
    split at h
    rotate_left
    · cases h
    rename_i hcond
    obtain ⟨hes, h0, hlen⟩ := hcond
    obtain ⟨ad, c0, us, hyv, hrel, husl, hcell, hadn⟩ := row_rel hh e2 hys hrow hlen
    rw [hxv] at e1
    have e1' := e1
    simp only [VRel] at e1
    obtain ⟨r0, a0, cc, hr0, hval, hnc, _, _, hor⟩ := e1
    split at h
    · rename_i hmin
      simp only [Option.some.injEq, Prod.mk.injEq] at h
      obtain ⟨rfl, rfl⟩ := h
      refine Done.pure hh (x := .int .i64 0) (hrun _ _ ?_) (by simp [VRel])
      have hf : (Builtin.firstCells j.size 0 (.slice ad (my.ev τ).len c0)).run P w = .ok #[] w := by cases ad <;> simp [Builtin.firstCells, loadCells, loadCellsFrom]
      have hst : (storeCells a0 []).run P w = .ok () w := by simp [storeCells]
      rw [hyv, hval]
      simp [Builtin.copy_, run_underlying hu, sizeOf, typeInfo, hj, Builtin.lenOf, hmin, hf, hst, goInt]
    · rename_i hmin
      rw [Option.map_eq_some_iff] at h
      obtain ⟨K, hK, he⟩ := h
      simp only [Prod.mk.injEq] at he
      obtain ⟨rfl, rfl⟩ := he
      have hn0 : n ≠ 0 := by omega
      have ha0 : a0 = ⟨r0.row, r0.off + off, none⟩ := by
        rcases hor with ⟨g, _⟩ | ⟨g, _⟩
        · exact absurd g hn0
        · exact g
      have hp : VRel ι (.ptr id off) (.pointer (some a0)) := by
        simp only [VRel]; exact ⟨r0, hr0, by rw [ha0]⟩
      have hrel2 := hrel.take (min (my.ev τ).len n * j.size)
      obtain ⟨ad2, w', hv2, hst, hR, hE⟩ := hh.write (P := P) hK hp hrel2
      injection hv2 with hv2; injection hv2 with hv2; subst hv2
      refine ⟨.int .i64 (min (my.ev τ).len n : Nat), w', ι, .inl (hrun _ _ ?_), by simp [VRel], hR, hE, fun _ _ => rfl⟩
      have hlt : (us.take (min (my.ev τ).len n * j.size)).length = min (my.ev τ).len n * j.size := by
        rw [List.length_take, husl]
        have : min (my.ev τ).len n * j.size ≤ (my.ev τ).len * j.size := Nat.mul_le_mul_right _ (Nat.min_le_left _ _)
        omega
      have hf : (Builtin.firstCells j.size (min (my.ev τ).len n) (.slice ad (my.ev τ).len c0)).run P w = .ok (us.take (min (my.ev τ).len n * j.size)).toArray w := by
        cases ad with
        | none => have := hadn rfl; omega
        | some b =>
          refine run_firstCells_some (P := P) w j.size (min (my.ev τ).len n) b (my.ev τ).len c0 _ hlt ?_
          intro i v hv
          rw [List.getElem?_take] at hv
          split at hv
          · exact hcell b rfl i v hv
          · cases hv
      rw [hyv, hval]
      simp only [Nat.min_def] at hf hst ⊢
      simp [Builtin.copy_, run_underlying hu, sizeOf, typeInfo, hj, Builtin.lenOf, Nat.min_def, hf, hst, goInt]
  · rename_i cs hrow hxv
    simp only [Option.some.injEq, Prod.mk.injEq] at h
    obtain ⟨rfl, rfl⟩ := h
    rw [hxv] at e1; simp only [VRel] at e1
    refine Done.pure hh (x := .int .i64 0) (hrun _ _ ?_) (by simp [VRel])
    have hy2 : ∃ ad c0, a.eval y = .slice ad (my.ev τ).len c0 := by
      cases hyv : my.ev τ <;> rw [hyv] at hys e2 <;> simp only [AV.isSlice, Bool.false_eq_true] at hys <;> simp only [VRel] at e2
      · obtain ⟨r0, a0, cc, hr0, hval, _⟩ := e2
        exact ⟨_, _, hval⟩
      · exact ⟨_, _, e2⟩
    obtain ⟨ad, c0, hyv⟩ := hy2
    have hf : (Builtin.firstCells j.size 0 (.slice ad (my.ev τ).len c0)).run P w = .ok #[] w := by cases ad <;> simp [Builtin.firstCells, loadCells, loadCellsFrom]
    rw [hyv, e1]
    simp [Builtin.copy_, run_underlying hu, sizeOf, typeInfo, hj, Builtin.lenOf, hf, goInt]
  · cases h

theorem step_sla {t e : TypeId} {n : Nat} {j : TypeInfo} {x : Operand} {mx : MX} (ht : TRel ι τ a.tmps) (hh : HRel ι H w) (ho : o.op = .slice t x none none none) (hu : P.underlying t = some (.array n e)) (hj : P.info? e = some j) (hx : cX x = some mx) {r : AV}
    (h : mstep nid τ H (.sla mx n j.size) = some (r, H')) : Done P o a nid ι H w r H' := by
  have e1 := ev_rel ht hx
  simp only [mstep] at h
  split at h
  · rename_i id off hv
    split at h
    · rename_i b hb
      split at h
      · rename_i hcond
        obtain ⟨hrw, hes, hn, hlen⟩ := hcond
        simp only [Option.some.injEq, Prod.mk.injEq] at h
        obtain ⟨rfl, rfl⟩ := h
        rw [hv] at e1; simp only [VRel] at e1
        obtain ⟨r0, hr0, hval⟩ := e1
        obtain ⟨r1, hr1, hB⟩ := hh.blk id b hb
        rw [hr0] at hr1; injection hr1 with hr1; subst hr1
        unfold BlkRel at hB
        rw [hrw] at hB
        obtain ⟨c, e', k1, k2, k3, k4⟩ := hB
        refine Done.pure hh (x := .slice (some ⟨r0.row, r0.off + off, none⟩) n n) ?_ ?_
        · by_cases h0 : n = 0
          · subst h0
            simp [execOp, ho, hval, Instr.sliceAt, Instr.sureAddr, run_underlying hu, Instr.sliceBounds, sizeOf, typeInfo, hj]
          · simp [execOp, ho, hval, Instr.sliceAt, Instr.sureAddr, run_underlying hu, Instr.sliceBounds, sizeOf, typeInfo, hj, h0, add_lit]
        · simp only [VRel]
          exact ⟨r0, _, n, hr0, rfl, Nat.le_refl _, by unfold maxLen; omega, fun k hk => by simpa using hk, .inr ⟨rfl, by omega⟩⟩
      · cases h
    · cases h
  · cases h

theorem step_all (ht : TRel ι τ a.tmps) (hh : HRel ι H w) {m : MOp} (hc : cOp P o = some m) {r : AV} (h : mstep nid τ H m = some (r, H')) (hn : ι nid = none) (hn' : nid ≤ H.size) : Done P o a nid ι H w r H' := by
  cases ho : o.op with
  | move x =>
    simp only [cOp, ho, Option.map_eq_some_iff] at hc
    obtain ⟨mx, hx, rfl⟩ := hc
    simp only [mstep, Option.some.injEq, Prod.mk.injEq] at h
    obtain ⟨rfl, rfl⟩ := h
    exact step_mv ht hh (.inl ho) hx
  | assign x =>
    simp only [cOp, ho, Option.map_eq_some_iff] at hc
    obtain ⟨mx, hx, rfl⟩ := hc
    simp only [mstep, Option.some.injEq, Prod.mk.injEq] at h
    obtain ⟨rfl, rfl⟩ := h
    exact step_mv ht hh (.inr ho) hx
  | pick c x y =>
    simp only [cOp, ho] at hc
    split at hc
    · rename_i mc mx my hc' hx hy
      simp only [Option.some.injEq] at hc; subst hc
      simp only [mstep] at h
      split at h
      · rename_i t ht'
        simp only [Option.some.injEq, Prod.mk.injEq] at h
        obtain ⟨rfl, rfl⟩ := h
        exact step_pick ht hh ho hc' hx hy ht'
      · cases h
    · cases hc
  | binOp op t x y t' =>
    simp only [cOp, ho] at hc
    split at hc
    · rename_i k mx my hu hx hy
      simp only [Option.some.injEq] at hc; subst hc
      simp only [mstep, Option.map_eq_some_iff, Prod.mk.injEq] at h
      obtain ⟨r', hr, rfl, rfl⟩ := h
      exact step_bin ht hh ho hx hy hr
    · rename_i mx my hu hx hy
      simp only [Option.some.injEq] at hc; subst hc
      simp only [mstep, Option.map_eq_some_iff, Prod.mk.injEq] at h
      obtain ⟨r', hr, rfl, rfl⟩ := h
      exact step_bin ht hh ho hx hy hr
    · rename_i mx my hu hx hy
      split at hc
      · simp only [Option.some.injEq] at hc; subst hc
        simp only [mstep] at h
        split at h
        · rename_i p q hp hq
          simp only [Option.some.injEq, Prod.mk.injEq] at h
          obtain ⟨rfl, rfl⟩ := h
          exact step_beq (neg := false) ht hh ho hu hx hy hp hq
        · cases h
      · simp only [Option.some.injEq] at hc; subst hc
        simp only [mstep] at h
        split at h
        · rename_i p q hp hq
          simp only [Option.some.injEq, Prod.mk.injEq] at h
          obtain ⟨rfl, rfl⟩ := h
          exact step_beq (neg := true) ht hh ho hu hx hy hp hq
        · cases h
      · cases hc
    · rename_i e mx my hu hx hy
      split at hc
      · simp only [Option.some.injEq] at hc; subst hc
        exact step_nileq (neg := false) ht hh ho hu hx hy h
      · simp only [Option.some.injEq] at hc; subst hc
        exact step_nileq (neg := true) ht hh ho hu hx hy h
      · cases hc
    · rename_i e mx my hu hx hy
      split at hc
      · simp only [Option.some.injEq] at hc; subst hc
        exact step_peq (neg := false) ht hh ho hu hx hy h
      · simp only [Option.some.injEq] at hc; subst hc
        exact step_peq (neg := true) ht hh ho hu hx hy h
      · cases hc
    · rename_i n0 e0 mx my hu hx hy
      split at hc
      · rename_i n hfl
        split at hc
        · rename_i hg
          have go := fun (neg : Bool) (ho' : o.op = .binOp (if neg = true then .neq else .eql) t x y t') (h : mstep nid τ H (.ageq neg n mx my) = some (r, H')) =>
            step_ageq (neg := neg) ht hh ho' hx hy hg (fun cs ds xs ys b hc1 hd1 he hl => flat_top hfl (.inl ⟨_, _, hu⟩) hc1 hd1 he hl) h
          split at hc
          · simp only [Option.some.injEq] at hc; subst hc
            exact go false ho h
          · simp only [Option.some.injEq] at hc; subst hc
            exact go true ho h
          · cases hc
        · cases hc
      · cases hc
    · rename_i fs mx my hu hx hy
      split at hc
      · rename_i n hfl
        split at hc
        · rename_i hg
          have go := fun (neg : Bool) (ho' : o.op = .binOp (if neg = true then .neq else .eql) t x y t') (h : mstep nid τ H (.ageq neg n mx my) = some (r, H')) =>
            step_ageq (neg := neg) ht hh ho' hx hy hg (fun cs ds xs ys b hc1 hd1 he hl => flat_top hfl (.inr ⟨_, hu⟩) hc1 hd1 he hl) h
          split at hc
          · simp only [Option.some.injEq] at hc; subst hc
            exact go false ho h
          · simp only [Option.some.injEq] at hc; subst hc
            exact go true ho h
          · cases hc
        · cases hc
      · cases hc
    · cases hc
  | unOp op t x =>
    simp only [cOp, ho, Option.map_eq_some_iff] at hc
    obtain ⟨mx, hx, rfl⟩ := hc
    simp only [mstep, Option.map_eq_some_iff, Prod.mk.injEq] at h
    obtain ⟨r', hr, rfl, rfl⟩ := h
    exact step_un ht hh ho hx hr
  | convert t u x =>
    simp only [cOp, ho] at hc
    split at hc
    · rename_i k0 k mx h1 h2 hx
      simp only [Option.some.injEq] at hc; subst hc
      simp only [mstep] at h
      split at h
      · rename_i k' n he
        simp only [Option.some.injEq, Prod.mk.injEq] at h
        obtain ⟨rfl, rfl⟩ := h
        exact step_conv ht hh ho h1 h2 hx he
      · cases h
    · cases hc
  | load t p =>
    simp only [cOp, ho] at hc
    split at hc
    · rename_i n ag mp hT hp
      simp only [Option.some.injEq] at hc; subst hc
      simp only [mstep] at h
      split at h
      · rename_i cs hcs
        simp only [Option.map_eq_some_iff, Prod.mk.injEq] at h
        obtain ⟨r', hr, rfl, rfl⟩ := h
        exact step_ld ht hh ho hT hp hcs hr
      · cases h
    · cases hc
  | store t p x =>
    simp only [cOp, ho] at hc
    split at hc
    · rename_i n ag mp mx hT hp hx
      simp only [Option.some.injEq] at hc; subst hc
      simp only [mstep] at h
      split at h
      · rename_i hl
        simp only [Option.map_eq_some_iff, Prod.mk.injEq] at h
        obtain ⟨K, hK, rfl, rfl⟩ := h
        exact step_st ht hh ho hT hp hx hl hK
      · cases h
    · cases hc
  | box t x =>
    simp only [cOp, ho, Option.map_eq_some_iff] at hc
    obtain ⟨mx, hx, rfl⟩ := hc
    simp only [mstep] at h
    split at h
    · rename_i h1
      simp only [Option.some.injEq, Prod.mk.injEq] at h
      obtain ⟨rfl, rfl⟩ := h
      exact step_box ht hh ho hx h1 hn hn'
    · cases h
  | alloc t =>
    simp only [cOp, ho, Option.map_eq_some_iff] at hc
    obtain ⟨z, hz, rfl⟩ := hc
    simp only [mstep, Option.some.injEq, Prod.mk.injEq] at h
    obtain ⟨rfl, rfl⟩ := h
    exact step_new hh ho hz hn hn'
  | build t ps =>
    simp only [cOp, ho] at hc
    split at hc
    · rename_i fs z hu hz
      split at hc
      · rename_i hall
        simp only [Option.map_eq_some_iff] at hc
        obtain ⟨l, hl, rfl⟩ := hc
        simp only [mstep, Option.map_eq_some_iff, Prod.mk.injEq] at h
        obtain ⟨cs, hcs, rfl, rfl⟩ := h
        refine step_bld_str ht hh ho hu ?_ hz hl hcs
        intro f hf
        rw [List.all_eq_true] at hall
        have := hall f (by simpa using hf)
        exact Option.isSome_iff_exists.1 this
      · cases hc
    · rename_i m e z hu hz
      split at hc
      · rename_i j l hj hl
        simp only [Option.some.injEq] at hc; subst hc
        simp only [mstep, Option.map_eq_some_iff, Prod.mk.injEq] at h
        obtain ⟨cs, hcs, rfl, rfl⟩ := h
        exact step_bld_arr ht hh ho hu hj hz hl (by rw [List.map_map] at hcs; exact hcs)
      · cases hc
    · cases hc
  | buildSlice t n ps =>
    simp only [cOp, ho] at hc
    split at hc
    · rename_i e hu
      split at hc
      · rename_i j z l hj hz hl
        split at hc
        · rename_i hb
          simp only [Option.some.injEq] at hc; subst hc
          simp only [mstep] at h
          split at h
          · rename_i cs hcs
            simp only [Option.some.injEq, Prod.mk.injEq] at h
            obtain ⟨rfl, rfl⟩ := h
            exact step_bsl ht hh ho hu hj hz hb.2 hb.1 hl hcs hn hn'
          · cases h
        · cases hc
      · cases hc
    · cases hc
  | makeSlice t n c =>
    simp only [cOp, ho] at hc
    split at hc
    · rename_i e hu
      split at hc
      · rename_i j z mn mc hj hz hn1 hc1
        split at hc
        · rename_i hb
          simp only [Option.some.injEq] at hc; subst hc
          simp only [mstep] at h
          split at h
          · rename_i l m hl hm
            split at h
            · rename_i hcond
              simp only [Option.some.injEq, Prod.mk.injEq] at h
              obtain ⟨rfl, rfl⟩ := h
              exact step_mks ht hh ho hu hj hz hb hn1 hc1 hl hm hcond hn hn'
            · cases h
          · cases h
        · cases hc
      · cases hc
    · cases hc
  | slice t x lo hi mx =>
    simp only [cOp, ho] at hc
    split at hc
    · rename_i e m mlo mhi mmx hu hx h1 h2 h3
      split at hc
      · rename_i j hj
        split at hc
        · cases hc
        · rename_i hb
          simp only [Option.some.injEq] at hc; subst hc
          simp only [mstep, Option.map_eq_some_iff, Prod.mk.injEq] at h
          obtain ⟨r', hr, rfl, rfl⟩ := h
          refine step_sl ht hh ho hu hj hx h1 h2 h3 ?_ hr
          intro hs
          cases hhi : mhi.isSome with
          | true => rfl
          | false => exact absurd ⟨hs, hhi⟩ hb
      · cases hc
    · rename_i m mlo mhi hu hx h1 h2 h3
      have hmx : mx = none := by
        cases mx with
        | none => rfl
        | some q => simp [cO] at h3
      subst hmx
      simp only [Option.some.injEq] at hc; subst hc
      simp only [mstep, Option.map_eq_some_iff, Prod.mk.injEq] at h
      obtain ⟨r', hr, rfl, rfl⟩ := h
      exact step_sls ht hh ho hu hx h1 h2 hr
    · rename_i n e m hu hx h1 h2 h3
      have hno : ∀ q : Option Operand, cO q = some none → q = none := by
        intro q hq; cases q with
        | none => rfl
        | some q => simp [cO] at hq
      obtain rfl := hno _ h1
      obtain rfl := hno _ h2
      obtain rfl := hno _ h3
      rw [Option.map_eq_some_iff] at hc
      obtain ⟨j, hj, rfl⟩ := hc
      exact step_sla ht hh ho hu hj hx h
    · cases hc
  | fieldAddr t x f =>
    simp only [cOp, ho] at hc
    split at hc
    · rename_i fs mx hu hx
      split at hc
      · rename_i fd hf
        split at hc
        · rename_i j hj
          split at hc
          · cases hc
          · rename_i hs
            simp only [Option.some.injEq] at hc; subst hc
            simp only [mstep] at h
            split at h
            · rename_i id off hp
              simp only [Option.some.injEq, Prod.mk.injEq] at h
              obtain ⟨rfl, rfl⟩ := h
              exact step_fa ht hh ho hu hf hj hs hx hp
            · rename_i g off hp
              simp only [Option.some.injEq, Prod.mk.injEq] at h
              obtain ⟨rfl, rfl⟩ := h
              exact step_fag ht hh ho hu hf hj hs hx hp
            · cases h
        · cases hc
      · cases hc
    · cases hc
  | field t x f =>
    simp only [cOp, ho] at hc
    split at hc
    · rename_i fs mx hu hx
      split at hc
      · rename_i fd hf
        split at hc
        · rename_i n ag hT
          simp only [Option.some.injEq] at hc; subst hc
          simp only [mstep] at h
          split at h
          · rename_i cs hcs
            split at h
            · rename_i hb
              simp only [Option.map_eq_some_iff, Prod.mk.injEq] at h
              obtain ⟨r', hr, rfl, rfl⟩ := h
              exact step_fld ht hh ho hu hf hT hx hcs hb hr
            · cases h
          · cases h
        · cases hc
      · cases hc
    · cases hc
  | indexAddr t x i =>
    simp only [cOp, ho] at hc
    split at hc
    · rename_i e mx mi hu hx hi
      simp only [Option.map_eq_some_iff] at hc
      obtain ⟨j, hj, rfl⟩ := hc
      simp only [mstep] at h
      split at h
      · rename_i k n hk
        split at h
        · rename_i hb
          obtain ⟨hb1, hb2, hb3⟩ := hb
          cases hv : mx.ev τ with
          | slice id off l cap es =>
            rw [hv] at hb2 hb3 h
            simp only [AV.es, Option.some.injEq] at hb3
            subst hb3
            simp only [Option.some.injEq, Prod.mk.injEq] at h
            obtain ⟨rfl, rfl⟩ := h
            exact step_ixa ht hh ho hu hj hx hi hk hv ⟨hb1, hb2⟩
          | _ => rw [hv] at hb3; simp [AV.es] at hb3
        · cases h
      · cases h
    · rename_i n e mx mi hu hx hi
      simp only [Option.map_eq_some_iff] at hc
      obtain ⟨j, hj, rfl⟩ := hc
      simp only [mstep] at h
      split at h
      · rename_i id off k n' hp hk
        split at h
        · rename_i hb
          simp only [Option.some.injEq, Prod.mk.injEq] at h
          obtain ⟨rfl, rfl⟩ := h
          exact step_arra ht hh ho hu hj hx hi hk hp hb
        · cases h
      · rename_i g off k n' hp hk
        split at h
        · rename_i hb
          simp only [Option.some.injEq, Prod.mk.injEq] at h
          obtain ⟨rfl, rfl⟩ := h
          exact step_arrag ht hh ho hu hj hx hi hk hp hb
        · cases h
      · cases h
    · cases hc
  | index t x i =>
    simp only [cOp, ho] at hc
    split at hc
    · rename_i mx mi hu hx hi
      simp only [Option.some.injEq] at hc; subst hc
      simp only [mstep] at h
      split at h
      · rename_i s k n hs hk
        split at h
        · rename_i hb
          simp only [Option.map_eq_some_iff, Prod.mk.injEq] at h
          obtain ⟨b, hb', rfl, rfl⟩ := h
          exact step_chr ht hh ho hu hx hi hk hs hb hb'
        · cases h
      · cases h
    · rename_i n e mx mi hu hx hi
      simp only [Option.map_eq_some_iff] at hc
      obtain ⟨⟨m, ag⟩, hT, rfl⟩ := hc
      simp only [mstep] at h
      split at h
      · rename_i cs k j hcs hk
        split at h
        · rename_i hb
          simp only [Option.map_eq_some_iff, Prod.mk.injEq] at h
          obtain ⟨r', hr, rfl, rfl⟩ := h
          exact step_arr ht hh ho hu hT hx hi hk hcs hb hr
        · cases h
      · cases h
    · cases hc
  | extract x i =>
    simp only [cOp, ho, Option.map_eq_some_iff] at hc
    obtain ⟨mx, hx, rfl⟩ := hc
    simp only [mstep] at h
    split at h
    · rename_i vs hv
      simp only [Option.map_eq_some_iff, Prod.mk.injEq] at h
      obtain ⟨r', hr, rfl, rfl⟩ := h
      exact step_ext ht hh ho hx hv hr
    · cases h
  | nilCheck x =>
    simp only [cOp, ho] at hc
    split at hc
    · simp only [Option.map_eq_some_iff] at hc
      obtain ⟨mx, hx, rfl⟩ := hc
      exact step_nilckm ht hh ho hx h
    · simp only [Option.map_eq_some_iff] at hc
      obtain ⟨mx, hx, rfl⟩ := hc
      exact step_nilck ht hh ho hx h
  | typeAssert x xt t ok =>
    simp only [cOp, ho] at hc
    split at hc
    · rename_i want mx hu hx
      split at hc
      · rename_i i hi
        split at hc
        · rename_i hz
          simp only [Option.some.injEq] at hc; subst hc
          exact step_tai ht hh ho hu hi hz hx h
        · cases hc
      · cases hc
    · rename_i d mx hnot hu hx
      split at hc
      · rename_i i hi
        split at hc
        · rename_i zv hz
          simp only [Option.map_eq_some_iff] at hc
          obtain ⟨z, hzv, rfl⟩ := hc
          exact step_tas ht hh ho hu (fun ms hms => hnot ms hms) hi hz hzv hx h
        · cases hc
      · cases hc
    · cases hc
  | makeInterface t x =>
    simp only [cOp, ho] at hc
    split at hc
    · cases hc
    · rename_i d mx hnot hu hx
      simp only [Option.some.injEq] at hc; subst hc
      simp only [mstep, Option.some.injEq, Prod.mk.injEq] at h
      obtain ⟨rfl, rfl⟩ := h
      exact step_mki ht hh ho hu (fun ms hms => hnot ms hms) hx
    · cases hc
  | makeFunc f first cs =>
    simp only [cOp, ho] at hc
    cases f <;> simp only [reduceCtorEq] at hc
    rotate_left
    · rename_i name
      split at hc
      · rename_i x hf
        split at hc
        · rename_i hcs
          simp only [Option.map_eq_some_iff] at hc
          obtain ⟨l, hl, rfl⟩ := hc
          simp only [mstep] at h
          split at h
          · rename_i t v hv
            simp only [Option.some.injEq, Prod.mk.injEq] at h
            obtain ⟨rfl, rfl⟩ := h
            exact step_mkm ht hh ho hf hcs hl hv
          · cases h
        · cases hc
      · cases hc
    rename_i f
    split at hc
    · rename_i hf
      simp only [Option.map_eq_some_iff] at hc
      obtain ⟨l, hl, rfl⟩ := hc
      simp only [mstep, Option.some.injEq, Prod.mk.injEq] at h
      obtain ⟨rfl, rfl⟩ := h
      exact step_mkf ht hh ho hf hl
    · rename_i x hf
      split at hc
      · rename_i hcs
        simp only [Option.map_eq_some_iff] at hc
        obtain ⟨l, hl, rfl⟩ := hc
        simp only [mstep, Option.some.injEq, Prod.mk.injEq] at h
        obtain ⟨rfl, rfl⟩ := h
        exact step_mkb ht hh ho hf hcs hl
      · cases hc
    · cases hc
  | call c =>
    simp only [cOp, ho] at hc
    split at hc
    · rename_i hcal
      split at hc
      · rename_i x t ha hta
        have ha' : c.args = #[x] := by apply Array.ext'; simpa using ha
        have hta' : c.argTypes = #[t] := by apply Array.ext'; simpa using hta
        split at hc
        · rename_i e mx hu hx
          simp only [Option.some.injEq] at hc; subst hc
          simp only [mstep] at h
          split at h
          · rename_i hb
            simp only [Option.some.injEq, Prod.mk.injEq] at h
            obtain ⟨rfl, rfl⟩ := h
            exact step_len ht hh ho hcal ha' hta' hu hx hb
          · cases h
        · rename_i mx hu hx
          simp only [Option.some.injEq] at hc; subst hc
          simp only [mstep] at h
          split at h
          · rename_i s hs
            simp only [Option.some.injEq, Prod.mk.injEq] at h
            obtain ⟨rfl, rfl⟩ := h
            exact step_lens ht hh ho hcal ha' hta' hu hx hs
          · cases h
        · cases hc
      · cases hc
    · rename_i hcal
      split at hc
      · rename_i x t ha hta
        have ha' : c.args = #[x] := by apply Array.ext'; simpa using ha
        have hta' : c.argTypes = #[t] := by apply Array.ext'; simpa using hta
        split at hc
        · rename_i e mx hu hx
          simp only [Option.some.injEq] at hc; subst hc
          simp only [mstep] at h
          split at h
          · rename_i hv
            simp only [Option.some.injEq, Prod.mk.injEq] at h
            obtain ⟨rfl, rfl⟩ := h
            exact step_cap0 ht hh ho hcal ha' hta' hu hx hv
          · cases h
        · cases hc
      · cases hc
    · rename_i hcal
      split at hc
      · rename_i x y t u ha hta
        have ha' : c.args = #[x, y] := by apply Array.ext'; simpa using ha
        have hta' : c.argTypes = #[t, u] := by apply Array.ext'; simpa using hta
        split at hc
        · rename_i e e' mx my hu hu' hx hy
          rw [Option.map_eq_some_iff] at hc
          obtain ⟨j, hj, rfl⟩ := hc
          exact step_cpy ht hh ho hcal ha' hta' hu hj hx hy h
        · cases hc
      · cases hc
    · rename_i hcal
      split at hc
      · rename_i x y t u ha hta
        have ha' : c.args = #[x, y] := by apply Array.ext'; simpa using ha
        have hta' : c.argTypes = #[t, u] := by apply Array.ext'; simpa using hta
        split at hc
        · rename_i e e' mx my hu hu' hx hy
          split at hc
          · rename_i j z hj hz
            simp only [Option.some.injEq] at hc; subst hc
            simp only [mstep] at h
            exact step_app ht hh ho hcal ha' hta' hu hu' hj hz hx hy h hn hn'
          · cases hc
        · rename_i e mx my hu hu' hx hy
          split at hc
          · rename_i j z hj hz
            simp only [Option.some.injEq] at hc; subst hc
            simp only [mstep] at h
            split at h
            · rename_i l hxv hyv
              split at h
              · rename_i hb
                simp only [Option.some.injEq, Prod.mk.injEq] at h
                obtain ⟨rfl, rfl⟩ := h
                exact step_app0 ht hh ho hcal ha' hta' hu hu' hj hz hx hy hxv hyv hb hn hn'
              · cases h
            · cases h
          · cases hc
        · cases hc
      · cases hc
    · rename_i hcal
      split at hc
      · rename_i x ys ha
        split at hc
        · rename_i mx ms hx hy
          simp only [Option.some.injEq] at hc; subst hc
          simp only [mstep, Option.map_eq_some_iff, Prod.mk.injEq] at h
          obtain ⟨r', hr, rfl, rfl⟩ := h
          exact step_mnmx (mx := true) ht hh ho hcal ha hx hy hr
        · cases hc
      · cases hc
    · rename_i hcal
      split at hc
      · rename_i x ys ha
        split at hc
        · rename_i mx ms hx hy
          simp only [Option.some.injEq] at hc; subst hc
          simp only [mstep, Option.map_eq_some_iff, Prod.mk.injEq] at h
          obtain ⟨r', hr, rfl, rfl⟩ := h
          exact step_mnmx (mx := false) ht hh ho hcal ha hx hy hr
        · cases hc
      · cases hc
    · split at hc
      · simp only [Option.some.injEq] at hc; subst hc
        simp [mstep] at h
      · cases hc
    · simp only [Option.map_eq_some_iff] at hc
      obtain ⟨l, hl, rfl⟩ := hc
      simp [mstep] at h
    · simp only [Option.map_eq_some_iff] at hc
      obtain ⟨l, hl, rfl⟩ := hc
      simp [mstep] at h
    · split at hc
      · simp only [Option.some.injEq] at hc; subst hc
        simp [mstep] at h
      · cases hc
    · cases hc
  | panic x =>
    simp only [cOp, ho, Option.some.injEq] at hc
    subst hc
    simp [mstep] at h
  | _ =>
    first
      | (simp [cOp, ho, cMq] at hc; done)
      | (simp only [cOp, ho, Option.map_eq_some_iff] at hc; obtain ⟨q, hq, rfl⟩ := hc; simp [mstep] at h; done)
end
end Go.Rx
