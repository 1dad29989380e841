/-
  RxG: every operation that is taken up does what its abstract one does.
-/
import Derived.Test.YtbkjijbmjacjnaaRxF
namespace Go.Rx
set_option linter.unusedVariables false
set_option linter.unusedSimpArgs false

section
variable {P : Program} {o : Oper} {a : Act} {nid : Nat} {ι : Nat → Option Ref} {H H' : Heap} {w : World} {τ : Nat → AV}

theorem step_ageq {neg : Bool} {n : Nat} {t t' : TypeId} {x y : Operand} {mx my : MX} (ht : TRel ι τ a.tmps) (hh : HRel ι H w) (ho : o.op = .binOp (if neg = true then .neq else .eql) t x y t') (hx : cX x = some mx) (hy : cX y = some my)
    (hg : P.eqGuardType P.depth t = false) (heq : ∀ (cs ds : List AV) (xs ys : Array Value) (b : Bool), VRelL ι cs xs.toList → VRelL ι ds ys.toList → flatEq cs ds = some b → cs.length = n → (Op.equalIn (9998 + 1 + 1) t (.agg xs) (.agg ys)).run P w = .ok b w)
    {r : AV} (h : mstep nid τ H (.ageq neg n mx my) = some (r, H')) : Done P o a nid ι H w r H' := by
  have e1 := ev_rel ht hx
  have e2 := ev_rel ht hy
  simp only [mstep] at h
  split at h
  · rename_i cs ds h1 h2
    split at h
    · rename_i hl
      simp only [Option.map_eq_some_iff, Prod.mk.injEq] at h
      obtain ⟨b, hb, rfl, rfl⟩ := h
      rw [h1] at e1; rw [h2] at e2
      simp only [VRel] at e1 e2
      obtain ⟨xs, hxs, hc⟩ := e1
      obtain ⟨ys, hys, hd⟩ := e2
      have hq := heq cs ds xs ys b hc hd hb hl
      have hq' : (Op.equal t (.agg xs) (.agg ys)).run P w = .ok b w := hq
      refine Done.pure hh (x := .bool (if neg = true then !b else b)) ?_ (by simp [VRel])
      cases neg <;> simp [execOp, ho, hxs, hys, eqGuard, binOp, hq', hg]
    · cases h
  · cases h

theorem step_all (ht : TRel ι τ a.tmps) (hh : HRel ι H w) {m : MOp} (hc : cOp P o = some m) {r : AV} (h : mstep nid τ H m = some (r, H')) (hn : ι nid = none) (hn' : nid ≤ H.size) : Done P o a nid ι H w r H' := by
  cases ho : o.op with
  | move x =>
    simp only [cOp, ho, Option.map_eq_some_iff] at hc
    obtain ⟨mx, hx, rfl⟩ := hc
    simp only [mstep, Option.some.injEq, Prod.mk.injEq] at h
    obtain ⟨rfl, rfl⟩ := h
    exact step_mv ht hh (.inl ho) hx
  | assign x =>
    simp only [cOp, ho, Option.map_eq_some_iff] at hc
    obtain ⟨mx, hx, rfl⟩ := hc
    simp only [mstep, Option.some.injEq, Prod.mk.injEq] at h
    obtain ⟨rfl, rfl⟩ := h
    exact step_mv ht hh (.inr ho) hx
  | pick c x y =>
    simp only [cOp, ho] at hc
    split at hc
    · rename_i mc mx my hc' hx hy
      simp only [Option.some.injEq] at hc; subst hc
      simp only [mstep] at h
      split at h
      · rename_i t ht'
        simp only [Option.some.injEq, Prod.mk.injEq] at h
        obtain ⟨rfl, rfl⟩ := h
        exact step_pick ht hh ho hc' hx hy ht'
      · cases h
    · cases hc
  | binOp op t x y t' =>
    simp only [cOp, ho] at hc
    split at hc
    · rename_i k mx my hu hx hy
      simp only [Option.some.injEq] at hc; subst hc
      simp only [mstep, Option.map_eq_some_iff, Prod.mk.injEq] at h
      obtain ⟨r', hr, rfl, rfl⟩ := h
      exact step_bin ht hh ho hx hy hr
    · rename_i mx my hu hx hy
      simp only [Option.some.injEq] at hc; subst hc
      simp only [mstep, Option.map_eq_some_iff, Prod.mk.injEq] at h
      obtain ⟨r', hr, rfl, rfl⟩ := h
      exact step_bin ht hh ho hx hy hr
    · rename_i mx my hu hx hy
      split at hc
      · simp only [Option.some.injEq] at hc; subst hc
        simp only [mstep] at h
        split at h
        · rename_i p q hp hq
          simp only [Option.some.injEq, Prod.mk.injEq] at h
          obtain ⟨rfl, rfl⟩ := h
          exact step_beq (neg := false) ht hh ho hu hx hy hp hq
        · cases h
      · simp only [Option.some.injEq] at hc; subst hc
        simp only [mstep] at h
        split at h
        · rename_i p q hp hq
          simp only [Option.some.injEq, Prod.mk.injEq] at h
          obtain ⟨rfl, rfl⟩ := h
          exact step_beq (neg := true) ht hh ho hu hx hy hp hq
        · cases h
      · cases hc
    · rename_i e mx my hu hx hy
      split at hc
      · simp only [Option.some.injEq] at hc; subst hc
        exact step_nileq (neg := false) ht hh ho hu hx hy h
      · simp only [Option.some.injEq] at hc; subst hc
        exact step_nileq (neg := true) ht hh ho hu hx hy h
      · cases hc
    · rename_i n e mx my hu hx hy
      split at hc
      · rename_i hcond
        have go := fun (neg : Bool) (ho' : o.op = .binOp (if neg = true then .neq else .eql) t x y t') (h : mstep nid τ H (.ageq neg n mx my) = some (r, H')) =>
          step_ageq (neg := neg) ht hh ho' hx hy hcond.2.2 (fun cs ds xs ys b hc1 hd1 he hl => run_equal_array (d := 9998) hu hc1 hd1 hcond.1 hcond.2.1 he hl) h
        split at hc
        · simp only [Option.some.injEq] at hc; subst hc
          exact go false ho h
        · simp only [Option.some.injEq] at hc; subst hc
          exact go true ho h
        · cases hc
      · cases hc
    · rename_i fs mx my hu hx hy
      split at hc
      · rename_i hcond
        have hp : ∀ (i : Nat) (f : Field), fs.toList[i]? = some f → f.name ≠ "_" ∧ f.offset = i ∧ cT P f.type = some (1, false) ∧ isIntT P f.type = true := by
          intro i f hf
          have h1 := List.all_eq_true.1 hcond.2.2 (f, i) (by rw [List.mem_zipIdx_iff_getElem?]; exact hf)
          simp only [Bool.and_eq_true, bne_iff_ne, ne_eq, beq_iff_eq] at h1
          exact ⟨h1.1.1.1, h1.1.1.2, h1.1.2, h1.2⟩
        have go := fun (neg : Bool) (ho' : o.op = .binOp (if neg = true then .neq else .eql) t x y t') (h : mstep nid τ H (.ageq neg fs.size mx my) = some (r, H')) =>
          step_ageq (neg := neg) ht hh ho' hx hy hcond.2.1 (fun cs ds xs ys b hc1 hd1 he hl => run_equal_struct (d := 9998) hu hcond.1 hc1 hd1 hp he hl) h
        split at hc
        · simp only [Option.some.injEq] at hc; subst hc
          exact go false ho h
        · simp only [Option.some.injEq] at hc; subst hc
          exact go true ho h
        · cases hc
      · cases hc
    · cases hc
  | unOp op t x =>
    simp only [cOp, ho, Option.map_eq_some_iff] at hc
    obtain ⟨mx, hx, rfl⟩ := hc
    simp only [mstep, Option.map_eq_some_iff, Prod.mk.injEq] at h
    obtain ⟨r', hr, rfl, rfl⟩ := h
    exact step_un ht hh ho hx hr
  | convert t u x =>
    simp only [cOp, ho] at hc
    split at hc
    · rename_i k0 k mx h1 h2 hx
      simp only [Option.some.injEq] at hc; subst hc
      simp only [mstep] at h
      split at h
      · rename_i k' n he
        simp only [Option.some.injEq, Prod.mk.injEq] at h
        obtain ⟨rfl, rfl⟩ := h
        exact step_conv ht hh ho h1 h2 hx he
      · cases h
    · cases hc
  | load t p =>
    simp only [cOp, ho] at hc
    split at hc
    · rename_i n ag mp hT hp
      simp only [Option.some.injEq] at hc; subst hc
      simp only [mstep] at h
      split at h
      · rename_i cs hcs
        simp only [Option.map_eq_some_iff, Prod.mk.injEq] at h
        obtain ⟨r', hr, rfl, rfl⟩ := h
        exact step_ld ht hh ho hT hp hcs hr
      · cases h
    · cases hc
  | store t p x =>
    simp only [cOp, ho] at hc
    split at hc
    · rename_i n ag mp mx hT hp hx
      simp only [Option.some.injEq] at hc; subst hc
      simp only [mstep] at h
      split at h
      · rename_i hl
        simp only [Option.map_eq_some_iff, Prod.mk.injEq] at h
        obtain ⟨K, hK, rfl, rfl⟩ := h
        exact step_st ht hh ho hT hp hx hl hK
      · cases h
    · cases hc
  | box t x =>
    simp only [cOp, ho, Option.map_eq_some_iff] at hc
    obtain ⟨mx, hx, rfl⟩ := hc
    simp only [mstep] at h
    split at h
    · rename_i h1
      simp only [Option.some.injEq, Prod.mk.injEq] at h
      obtain ⟨rfl, rfl⟩ := h
      exact step_box ht hh ho hx h1 hn hn'
    · cases h
  | alloc t =>
    simp only [cOp, ho, Option.map_eq_some_iff] at hc
    obtain ⟨z, hz, rfl⟩ := hc
    simp only [mstep, Option.some.injEq, Prod.mk.injEq] at h
    obtain ⟨rfl, rfl⟩ := h
    exact step_new hh ho hz hn hn'
  | build t ps =>
    simp only [cOp, ho] at hc
    split at hc
    · rename_i fs z hu hz
      split at hc
      · rename_i hall
        simp only [Option.map_eq_some_iff] at hc
        obtain ⟨l, hl, rfl⟩ := hc
        simp only [mstep, Option.map_eq_some_iff, Prod.mk.injEq] at h
        obtain ⟨cs, hcs, rfl, rfl⟩ := h
        refine step_bld_str ht hh ho hu ?_ hz hl hcs
        intro f hf
        rw [List.all_eq_true] at hall
        have := hall f (by simpa using hf)
        exact Option.isSome_iff_exists.1 this
      · cases hc
    · rename_i m e z hu hz
      split at hc
      · rename_i j l hj hl
        simp only [Option.some.injEq] at hc; subst hc
        simp only [mstep, Option.map_eq_some_iff, Prod.mk.injEq] at h
        obtain ⟨cs, hcs, rfl, rfl⟩ := h
        exact step_bld_arr ht hh ho hu hj hz hl (by rw [List.map_map] at hcs; exact hcs)
      · cases hc
    · cases hc
  | buildSlice t n ps =>
    simp only [cOp, ho] at hc
    split at hc
    · rename_i e hu
      split at hc
      · rename_i j z l hj hz hl
        split at hc
        · rename_i hb
          simp only [Option.some.injEq] at hc; subst hc
          simp only [mstep] at h
          split at h
          · rename_i cs hcs
            simp only [Option.some.injEq, Prod.mk.injEq] at h
            obtain ⟨rfl, rfl⟩ := h
            exact step_bsl ht hh ho hu hj hz hb.2 hb.1 hl hcs hn hn'
          · cases h
        · cases hc
      · cases hc
    · cases hc
  | makeSlice t n c =>
    simp only [cOp, ho] at hc
    split at hc
    · rename_i e hu
      split at hc
      · rename_i j z mn mc hj hz hn1 hc1
        split at hc
        · rename_i hb
          simp only [Option.some.injEq] at hc; subst hc
          simp only [mstep] at h
          split at h
          · rename_i l m hl hm
            split at h
            · rename_i hcond
              simp only [Option.some.injEq, Prod.mk.injEq] at h
              obtain ⟨rfl, rfl⟩ := h
              exact step_mks ht hh ho hu hj hz hb hn1 hc1 hl hm hcond hn hn'
            · cases h
          · cases h
        · cases hc
      · cases hc
    · cases hc
  | slice t x lo hi mx =>
    simp only [cOp, ho] at hc
    split at hc
    · rename_i e m mlo mhi mmx hu hx h1 h2 h3
      split at hc
      · rename_i j hj
        split at hc
        · cases hc
        · rename_i hb
          simp only [Option.some.injEq] at hc; subst hc
          simp only [mstep, Option.map_eq_some_iff, Prod.mk.injEq] at h
          obtain ⟨r', hr, rfl, rfl⟩ := h
          refine step_sl ht hh ho hu hj hx h1 h2 h3 ?_ hr
          intro hs
          cases hhi : mhi.isSome with
          | true => rfl
          | false => exact absurd ⟨hs, hhi⟩ hb
      · cases hc
    · rename_i m mlo mhi hu hx h1 h2 h3
      have hmx : mx = none := by
        cases mx with
        | none => rfl
        | some q => simp [cO] at h3
      subst hmx
      simp only [Option.some.injEq] at hc; subst hc
      simp only [mstep, Option.map_eq_some_iff, Prod.mk.injEq] at h
      obtain ⟨r', hr, rfl, rfl⟩ := h
      exact step_sls ht hh ho hu hx h1 h2 hr
    · cases hc
  | fieldAddr t x f =>
    simp only [cOp, ho] at hc
    split at hc
    · rename_i fs mx hu hx
      split at hc
      · rename_i fd hf
        split at hc
        · rename_i j hj
          split at hc
          · cases hc
          · rename_i hs
            simp only [Option.some.injEq] at hc; subst hc
            simp only [mstep] at h
            split at h
            · rename_i id off hp
              simp only [Option.some.injEq, Prod.mk.injEq] at h
              obtain ⟨rfl, rfl⟩ := h
              exact step_fa ht hh ho hu hf hj hs hx hp
            · cases h
        · cases hc
      · cases hc
    · cases hc
  | field t x f =>
    simp only [cOp, ho] at hc
    split at hc
    · rename_i fs mx hu hx
      split at hc
      · rename_i fd hf
        split at hc
        · rename_i n ag hT
          simp only [Option.some.injEq] at hc; subst hc
          simp only [mstep] at h
          split at h
          · rename_i cs hcs
            split at h
            · rename_i hb
              simp only [Option.map_eq_some_iff, Prod.mk.injEq] at h
              obtain ⟨r', hr, rfl, rfl⟩ := h
              exact step_fld ht hh ho hu hf hT hx hcs hb hr
            · cases h
          · cases h
        · cases hc
      · cases hc
    · cases hc
  | indexAddr t x i =>
    simp only [cOp, ho] at hc
    split at hc
    · rename_i e mx mi hu hx hi
      simp only [Option.map_eq_some_iff] at hc
      obtain ⟨j, hj, rfl⟩ := hc
      simp only [mstep] at h
      split at h
      · rename_i k n hk
        split at h
        · rename_i hb
          obtain ⟨hb1, hb2, hb3⟩ := hb
          cases hv : mx.ev τ with
          | slice id off l cap es =>
            rw [hv] at hb2 hb3 h
            simp only [AV.es, Option.some.injEq] at hb3
            subst hb3
            simp only [Option.some.injEq, Prod.mk.injEq] at h
            obtain ⟨rfl, rfl⟩ := h
            exact step_ixa ht hh ho hu hj hx hi hk hv ⟨hb1, hb2⟩
          | _ => rw [hv] at hb3; simp [AV.es] at hb3
        · cases h
      · cases h
    · rename_i n e mx mi hu hx hi
      simp only [Option.map_eq_some_iff] at hc
      obtain ⟨j, hj, rfl⟩ := hc
      simp only [mstep] at h
      split at h
      · rename_i id off k n' hp hk
        split at h
        · rename_i hb
          simp only [Option.some.injEq, Prod.mk.injEq] at h
          obtain ⟨rfl, rfl⟩ := h
          exact step_arra ht hh ho hu hj hx hi hk hp hb
        · cases h
      · cases h
    · cases hc
  | index t x i =>
    simp only [cOp, ho] at hc
    split at hc
    · rename_i mx mi hu hx hi
      simp only [Option.some.injEq] at hc; subst hc
      simp only [mstep] at h
      split at h
      · rename_i s k n hs hk
        split at h
        · rename_i hb
          simp only [Option.map_eq_some_iff, Prod.mk.injEq] at h
          obtain ⟨b, hb', rfl, rfl⟩ := h
          exact step_chr ht hh ho hu hx hi hk hs hb hb'
        · cases h
      · cases h
    · rename_i n e mx mi hu hx hi
      simp only [Option.map_eq_some_iff] at hc
      obtain ⟨⟨m, ag⟩, hT, rfl⟩ := hc
      simp only [mstep] at h
      split at h
      · rename_i cs k j hcs hk
        split at h
        · rename_i hb
          simp only [Option.map_eq_some_iff, Prod.mk.injEq] at h
          obtain ⟨r', hr, rfl, rfl⟩ := h
          exact step_arr ht hh ho hu hT hx hi hk hcs hb hr
        · cases h
      · cases h
    · cases hc
  | extract x i =>
    simp only [cOp, ho, Option.map_eq_some_iff] at hc
    obtain ⟨mx, hx, rfl⟩ := hc
    simp only [mstep] at h
    split at h
    · rename_i vs hv
      simp only [Option.map_eq_some_iff, Prod.mk.injEq] at h
      obtain ⟨r', hr, rfl, rfl⟩ := h
      exact step_ext ht hh ho hx hv hr
    · cases h
  | nilCheck x =>
    simp only [cOp, ho, Option.map_eq_some_iff] at hc
    obtain ⟨mx, hx, rfl⟩ := hc
    exact step_nilck ht hh ho hx h
  | makeInterface t x =>
    simp only [cOp, ho] at hc
    split at hc
    · cases hc
    · rename_i d mx hnot hu hx
      simp only [Option.some.injEq] at hc; subst hc
      simp only [mstep, Option.some.injEq, Prod.mk.injEq] at h
      obtain ⟨rfl, rfl⟩ := h
      exact step_mki ht hh ho hu (fun ms hms => hnot ms hms) hx
    · cases hc
  | makeFunc f first cs =>
    simp only [cOp, ho] at hc
    cases f <;> simp only [reduceCtorEq] at hc
    rename_i f
    split at hc
    · rename_i hf
      simp only [Option.map_eq_some_iff] at hc
      obtain ⟨l, hl, rfl⟩ := hc
      simp only [mstep, Option.some.injEq, Prod.mk.injEq] at h
      obtain ⟨rfl, rfl⟩ := h
      exact step_mkf ht hh ho hf hl
    · rename_i x hf
      split at hc
      · rename_i hcs
        simp only [Option.map_eq_some_iff] at hc
        obtain ⟨l, hl, rfl⟩ := hc
        simp only [mstep, Option.some.injEq, Prod.mk.injEq] at h
        obtain ⟨rfl, rfl⟩ := h
        exact step_mkb ht hh ho hf hcs hl
      · cases hc
    · cases hc
  | call c =>
    simp only [cOp, ho] at hc
    split at hc
    · rename_i hcal
      split at hc
      · rename_i x t ha hta
        have ha' : c.args = #[x] := by apply Array.ext'; simpa using ha
        have hta' : c.argTypes = #[t] := by apply Array.ext'; simpa using hta
        split at hc
        · rename_i e mx hu hx
          simp only [Option.some.injEq] at hc; subst hc
          simp only [mstep] at h
          split at h
          · rename_i hb
            simp only [Option.some.injEq, Prod.mk.injEq] at h
            obtain ⟨rfl, rfl⟩ := h
            exact step_len ht hh ho hcal ha' hta' hu hx hb
          · cases h
        · rename_i mx hu hx
          simp only [Option.some.injEq] at hc; subst hc
          simp only [mstep] at h
          split at h
          · rename_i s hs
            simp only [Option.some.injEq, Prod.mk.injEq] at h
            obtain ⟨rfl, rfl⟩ := h
            exact step_lens ht hh ho hcal ha' hta' hu hx hs
          · cases h
        · cases hc
      · cases hc
    · rename_i hcal
      split at hc
      · rename_i x y t u ha hta
        have ha' : c.args = #[x, y] := by apply Array.ext'; simpa using ha
        have hta' : c.argTypes = #[t, u] := by apply Array.ext'; simpa using hta
        split at hc
        · rename_i e e' mx my hu hu' hx hy
          split at hc
          · rename_i j z hj hz
            simp only [Option.some.injEq] at hc; subst hc
            simp only [mstep] at h
            exact step_app ht hh ho hcal ha' hta' hu hu' hj hz hx hy h hn hn'
          · cases hc
        · cases hc
      · cases hc
    · rename_i hcal
      split at hc
      · rename_i x ys ha
        split at hc
        · rename_i mx ms hx hy
          simp only [Option.some.injEq] at hc; subst hc
          simp only [mstep, Option.map_eq_some_iff, Prod.mk.injEq] at h
          obtain ⟨r', hr, rfl, rfl⟩ := h
          exact step_mnmx (mx := true) ht hh ho hcal ha hx hy hr
        · cases hc
      · cases hc
    · rename_i hcal
      split at hc
      · rename_i x ys ha
        split at hc
        · rename_i mx ms hx hy
          simp only [Option.some.injEq] at hc; subst hc
          simp only [mstep, Option.map_eq_some_iff, Prod.mk.injEq] at h
          obtain ⟨r', hr, rfl, rfl⟩ := h
          exact step_mnmx (mx := false) ht hh ho hcal ha hx hy hr
        · cases hc
      · cases hc
    · simp only [Option.map_eq_some_iff] at hc
      obtain ⟨l, hl, rfl⟩ := hc
      simp [mstep] at h
    · split at hc
      · simp only [Option.some.injEq] at hc; subst hc
        simp [mstep] at h
      · cases hc
    · cases hc
  | _ => simp [cOp, ho] at hc
end
end Go.Rx
