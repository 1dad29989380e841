/-
  RxL: a region that draws its order, carried out in the order of the text.
-/
import Derived.Test.YtophpmdlgphihapRxK
namespace Go.Rx
set_option linter.unusedVariables false
set_option linter.unusedSimpArgs false

/-- what stands ahead of an operation, however the order is drawn: bit by bit -/
def mask1 (acc : List Nat) (o : Oper) : Nat :=
  o.after.toList.foldl (fun s e => if Region.binds .any e = true then s ||| 2 ^ e.on ||| acc.getD e.on 0 else s) 0

def masks (ops : Array Oper) : Nat → List Nat
  | 0 => []
  | k + 1 => match ops[k]? with
    | some o => masks ops k ++ [mask1 (masks ops k) o]
    | none => masks ops k ++ [0]

theorem masks_length (ops : Array Oper) : ∀ k, (masks ops k).length = k
  | 0 => rfl
  | k + 1 => by
    simp only [masks]
    split <;> simp [masks_length ops k]

theorem masks_getD (ops : Array Oper) (j : Nat) : ∀ k, j < k → (masks ops k).getD j 0 = match ops[j]? with | some o => mask1 (masks ops j) o | none => 0
  | 0, h => by omega
  | k + 1, h => by
    have hl := masks_length ops k
    by_cases hj : j = k
    · subst hj
      simp only [masks]
      split
      · rename_i o ho
        rw [List.getD, List.getElem?_append_right (by omega)]; simp [hl]
      · rw [List.getD, List.getElem?_append_right (by omega)]; simp [hl]
    · have ih := masks_getD ops j k (by omega)
      rw [← ih]
      simp only [masks]
      split <;> (rw [List.getD, List.getElem?_append_left (by omega)]; rfl)

theorem fold_bit (acc : List Nat) (i : Nat) : ∀ (es : List Edge) (s0 : Nat), (es.foldl (fun s e => if Region.binds .any e = true then s ||| 2 ^ e.on ||| acc.getD e.on 0 else s) s0).testBit i = true →
    s0.testBit i = true ∨ ∃ e ∈ es, Region.binds .any e = true ∧ (e.on = i ∨ (acc.getD e.on 0).testBit i = true)
  | [], s0, h => .inl h
  | e :: es, s0, h => by
    simp only [List.foldl_cons] at h
    rcases fold_bit acc i es _ h with h1 | ⟨e', he', hb, h2⟩
    · split at h1
      · rename_i hb
        rw [Nat.testBit_or, Nat.testBit_or, Bool.or_eq_true, Bool.or_eq_true, Nat.testBit_two_pow] at h1
        rcases h1 with (h1 | h1) | h1
        · exact .inl h1
        · exact .inr ⟨e, by simp, hb, .inl (by simpa using h1)⟩
        · exact .inr ⟨e, by simp, hb, .inr h1⟩
      · exact .inl h1
    · exact .inr ⟨e', by simp [he'], hb, h2⟩

theorem before_in {ops : Array Oper} {l : List Nat} (hv : Valid ops l) {n : Nat} : ∀ (j : Nat), j < n → ∀ p s, l = p ++ j :: s → ∀ i, ((masks ops n).getD j 0).testBit i = true → i ∈ p := by
  intro j
  induction j using Nat.strongRecOn with
  | _ j ih =>
    intro hj p s hl i hb
    rw [masks_getD ops j n hj] at hb
    split at hb
    · rename_i o ho
      rcases fold_bit _ i _ _ hb with h1 | ⟨e, he, hbe, h2⟩
      · simp at h1
      · have hin := hv.pre p j s hl o ho e (by simpa using he) hbe
        rcases h2 with rfl | h2
        · exact hin
        · -- what stands ahead of that one
          have hlt : e.on < j := by
            rcases Nat.lt_or_ge e.on j with h | h
            · exact h
            · rw [List.getD, List.getElem?_eq_none (by rw [masks_length]; exact h)] at h2; simp at h2
          obtain ⟨p1, p2, hp⟩ := List.append_of_mem hin
          have := ih e.on hlt (by omega) p1 (p2 ++ j :: s) (by rw [hl, hp]; simp) i (by rw [masks_getD ops e.on n (by omega), ← masks_getD ops e.on j hlt]; exact h2)
          rw [hp]; simp [this]
    · simp at hb

/-- is an operation carried out? -/
def gcheck (τ : Nat → AV) : Option (Nat × Bool) → Option Bool
  | none => some true
  | some (t, want) => match τ t with
    | .bool b => some (decide (b = want))
    | .tuple [] => some false
    | _ => none

/-- one operation of a region that draws: calls by what is known of them -/
def dstep (P : Program) (Qt : FuncId → List AV → Option AV) (nid : Nat) (m : MI) (s : St) : Option (AV × Heap) :=
  match gcheck s.τ m.guard with
  | none => none
  | some false => some (.tuple [], s.H)
  | some true => match mcallee P s.τ m.op with
    | some (f, as) => match Qt f as with
      | some r => some (r, s.H)
      | none => none
    | none => mstep nid s.τ s.H m.op

def gslots : Option (Nat × Bool) → List Nat
  | some (t, _) => [t]
  | none => []

def MI.slots (m : MI) : List Nat := m.op.slots ++ gslots m.guard

def QtOk (P : Program) (Qt : FuncId → List AV → Option AV) (H : Heap) : Prop :=
  ∀ f args r, Qt f args = some r → Callable P f ∧ ACalls P f args H fun r' H' => r' = r ∧ H' = H

/-- two operations that no edge orders do not meet -/
structure Indep (base : Nat) (ST : Nat → St) (i j : Nat) (mi mj : MI) : Prop where
  d1 : ∀ d, mi.dst = some d → d ∉ mj.slots ∧ mj.dst ≠ some d
  d2 : ∀ d, mj.dst = some d → d ∉ mi.slots
  h1 : ∀ id, id ∈ touch (base + i) (ST i).τ mi.op → id ∉ foot (ST j).τ mj.op ++ touch (base + j) (ST j).τ mj.op
  h2 : ∀ id, id ∈ touch (base + j) (ST j).τ mj.op → id ∉ foot (ST i).τ mi.op

/-- the text's order, state by state -/
structure Text (P : Program) (Qt : FuncId → List AV → Option AV) (base : Nat) (ms : List MI) (s0 : St) (ST : Nat → St) (V : Nat → AV) (HH : Nat → Heap) : Prop where
  first : ST 0 = s0
  step : ∀ (k : Nat) (m : MI), ms[k]? = some m → dstep P Qt (base + k) m (ST k) = some (V k, HH k) ∧ ST (k + 1) = St.put ⟨(ST k).τ, HH k⟩ m.dst (V k)

theorem dstep_local {P : Program} {Qt : FuncId → List AV → Option AV} {nid : Nat} {m : MI} {s s2 : St} {v : AV} {H' : Heap} (h : dstep P Qt nid m s = some (v, H')) (hn : allocs m.op = true → nid < s.H.size) (hs : s2.H.size = s.H.size)
    (hτ : ∀ t ∈ m.slots, s2.τ t = s.τ t) (hH : ∀ id ∈ foot s.τ m.op ++ touch nid s.τ m.op, s2.H.get id = s.H.get id) :
    ∃ H2', dstep P Qt nid m s2 = some (v, H2') ∧ H2'.size = s2.H.size ∧ H'.size = s.H.size ∧ (∀ id ∈ touch nid s.τ m.op, H2'.get id = H'.get id) ∧ (∀ id, id ∉ touch nid s.τ m.op → H2'.get id = s2.H.get id) ∧ ∀ id, id ∉ touch nid s.τ m.op → H'.get id = s.H.get id := by
  have hg : gcheck s2.τ m.guard = gcheck s.τ m.guard := by
    cases hmg : m.guard with
    | none => rfl
    | some q =>
      obtain ⟨t, want⟩ := q
      simp only [gcheck]
      rw [hτ t (by simp [MI.slots, gslots, hmg])]
  have hτ' : ∀ t ∈ m.op.slots, s2.τ t = s.τ t := fun t ht => hτ t (by simp [MI.slots, ht])
  unfold dstep at h ⊢
  rw [hg]
  split at h
  · cases h
  · simp only [Option.some.injEq, Prod.mk.injEq] at h
    obtain ⟨rfl, rfl⟩ := h
    exact ⟨s2.H, rfl, rfl, rfl, fun id hi => hH id (by simp [hi]), fun _ _ => rfl, fun _ _ => rfl⟩
  · rw [mcallee_congr hτ']
    split at h
    · rename_i f as hop
      split at h
      · rename_i r hr
        simp only [Option.some.injEq, Prod.mk.injEq] at h
        obtain ⟨rfl, rfl⟩ := h
        exact ⟨s2.H, rfl, rfl, rfl, fun id hi => hH id (by simp [hi]), fun _ _ => rfl, fun _ _ => rfl⟩
      · cases h
    · rename_i hnc
      obtain ⟨e1, _, _⟩ := slots_congr hτ' nid s2.H
      obtain ⟨H2', g1, g2⟩ := mstep_local h hn hs hH
      rw [← e1] at g1
      exact ⟨H2', g1, g2⟩

/-- the values that operation k lays: in slots, and in blocks -/
def Eτ (ms : List MI) (V : Nat → AV) (k : Nat) : List (Nat × AV) :=
  match ms[k]? with
  | some m => match m.dst with
    | some d => [(d, V k)]
    | none => []
  | none => []

def EH (base : Nat) (ms : List MI) (ST : Nat → St) (HH : Nat → Heap) (k : Nat) : List (Nat × Option Blk) :=
  match ms[k]? with
  | some m => (touch (base + k) (ST k).τ m.op).map fun id => (id, (HH k).get id)
  | none => []

theorem ap_same {Y : Type} {f : Nat → Y} : ∀ {l : List Nat} {g : Nat → Y} {x : Nat}, x ∈ l → ap (l.map fun id => (id, f id)) g x = f x
  | id :: l, g, x, h => by
    simp only [List.map_cons, ap]
    by_cases hx : x ∈ l
    · exact ap_same hx
    · have hne : x = id := (List.mem_cons.1 h).resolve_right hx
      rw [ap_out (by simpa [Function.comp_def] using hx), if_pos hne, hne]

theorem put_τ (s : St) (H : Heap) (d : Option Nat) (v : AV) : (St.put ⟨s.τ, H⟩ d v).τ = ap (match d with | some d => [(d, v)] | none => []) s.τ := by
  cases d with
  | none => rfl
  | some d => simp only [St.put, ap]; rfl

theorem put_H (s : St) (H : Heap) (d : Option Nat) (v : AV) : (St.put ⟨s.τ, H⟩ d v).H = H := by cases d <;> rfl

theorem cList_get {P : Program} {N : Nat} {ops : Array Oper} : ∀ {l : List Nat} {ms : List MI}, cList P N ops l = some ms → ms.length = l.length ∧ ∀ (k i : Nat), l[k]? = some i → ∃ m : MI, ms[k]? = some m ∧ cIdx P N ops i = some m
  | [], ms, h => by simp only [cList, Option.some.injEq] at h; subst h; simp
  | i :: l, ms, h => by
    simp only [cList] at h
    split at h
    · rename_i m ml hm hl
      simp only [Option.some.injEq] at h; subst h
      obtain ⟨h1, h2⟩ := cList_get hl
      refine ⟨by simp [h1], ?_⟩
      intro k j hk
      cases k with
      | zero => simp at hk; subst hk; exact ⟨m, rfl, hm⟩
      | succ k => simp at hk; exact h2 k j hk
    · cases h

theorem St.ext' {s t : St} (h1 : s.τ = t.τ) (h2 : s.H.size = t.H.size) (h3 : s.H.get = t.H.get) (h4 : s.H.ob = t.H.ob) : s = t := by
  obtain ⟨a, ⟨b, c, d⟩⟩ := s
  obtain ⟨a', ⟨b', c', d'⟩⟩ := t
  simp only at h1 h2 h3 h4
  rw [h1, h2, h3, h4]

theorem dstep_ob {P : Program} {Qt : FuncId → List AV → Option AV} {nid : Nat} {m : MI} {s : St} {v : AV} {H' : Heap} (h : dstep P Qt nid m s = some (v, H')) : H'.ob = s.H.ob := by
  unfold dstep at h
  split at h
  · cases h
  · rw [(some_pair h).2]
  · split at h
    · split at h
      · rw [(some_pair h).2]
      · cases h
    · exact mstep_ob h

theorem Text.ob {P : Program} {Qt : FuncId → List AV → Option AV} {base : Nat} {ms : List MI} {s0 : St} {ST : Nat → St} {V : Nat → AV} {HH : Nat → Heap} (hT : Text P Qt base ms s0 ST V HH) : ∀ k, k ≤ ms.length → (ST k).H.ob = s0.H.ob
  | 0, _ => by rw [hT.first]
  | k + 1, hk => by
    obtain ⟨g1, g2⟩ := hT.step k ms[k] (List.getElem?_eq_getElem (by omega))
    rw [g2, put_H, dstep_ob g1]
    exact hT.ob k (by omega)

theorem mexec_callee {P : Program} {op : MOp} {d : Option Nat} {s : St} {M : St → (St → Prop) → Prop} {K : St → Prop} {f : FuncId} {args : List AV} (hc : mcallee P s.τ op = some (f, args)) (h : mcall P f args d s M K) : mexec P op d s M K := by
  cases op <;> first | (simp [mcallee] at hc; done) | skip
  · simp only [mcallee, Option.some.injEq, Prod.mk.injEq] at hc
    obtain ⟨rfl, rfl⟩ := hc
    exact h
  · simp only [mcallee] at hc
    simp only [mexec]
    split at hc
    · rename_i hv
      simp only [Option.some.injEq, Prod.mk.injEq] at hc
      obtain ⟨rfl, rfl⟩ := hc
      simp only [hv]; exact h
    · rename_i hv
      simp only [Option.some.injEq, Prod.mk.injEq] at hc
      obtain ⟨rfl, rfl⟩ := hc
      simp only [hv]; exact h
    · rename_i hv
      simp only [Option.map_eq_some_iff, Prod.mk.injEq] at hc
      obtain ⟨g, hg, rfl, rfl⟩ := hc
      simp only [hv, hg]; exact h
    · cases hc
  · simp only [mcallee] at hc
    simp only [mexec]
    split at hc
    · rename_i hv
      simp only [Option.map_eq_some_iff, Prod.mk.injEq] at hc
      obtain ⟨g, hg, rfl, rfl⟩ := hc
      simp only [hv, hg]; exact h
    · cases hc

section
variable {ro : Option Nat} {P : Program} {B : Bs} {N : Nat} {ops : Array Oper} {ms : List MI} {Qt : FuncId → List AV → Option AV} {base : Nat} {s0 : St} {ST : Nat → St} {V : Nat → AV} {HH : Nat → Heap} {Q : Exit → St → Prop} {sB : St} {ιB : Nat → Option Ref} {wB : World}

theorem draw_go {opsF : Array Oper} {suf : List Nat} (hsub : ∀ (i : Nat) (o : Oper), ops[i]? = some o → opsF[i]? = some o) (hms : cList P N ops (List.range ops.size) = some ms) (hT : Text P Qt base ms s0 ST V HH)
    (hsize : ∀ k, k ≤ ops.size → (ST k).H.size = s0.H.size)
    (hal : ∀ (k : Nat) (m : MI), ms[k]? = some m → allocs m.op = true → base + k < s0.H.size)
    (hind : ∀ (i j : Nat) (mi mj : MI), i < j → ms[i]? = some mi → ms[j]? = some mj → ((masks ops ops.size).getD j 0).testBit i = false → Indep base ST i j mi mj)
    (hcall : ∀ (k : Nat) (m : MI), ms[k]? = some m → m.op.isCall = true → (QtOk P Qt s0.H ∧ ∀ (j : Nat) (mj : MI), ms[j]? = some mj → allocs mj.op = false ∧ ((∀ nid τ, touch nid τ mj.op = []) ∨ ((masks ops ops.size).getD j 0).testBit k = true)) ∨
      ((∀ H, (∀ id, (∀ (k : Nat) (m : MI), ms[k]? = some m → id ∉ touch (base + k) (ST k).τ m.op) → H.get id = s0.H.get id) → QtOk P Qt H) ∧ s0.H.size = base + ops.size ∧ ∀ (i j : Nat) (mi mj : MI), ms[i]? = some mi → ms[j]? = some mj → allocs mi.op = true → allocs mj.op = true → i = j))
    (hend : ∀ ι a w, Rel B N (ST ops.size) ι a w → HExt ιB sB.H wB ι (ST ops.size).H w → wpOpsIn (fR ro) 0 P opsF (Post B N sB ιB wB Q) suf a w) {order : List Nat} (hv : Valid ops order) :
    ∀ (rest p : List Nat) (s : St) (ι : Nat → Option Ref) (a : Act) (w : World), order = p ++ rest →
      s.τ = mix (Eτ ms V) (fun k => decide (k ∈ p)) s0.τ ops.size → s.H.get = mix (EH base ms ST HH) (fun k => decide (k ∈ p)) s0.H.get ops.size → s.H.size = s0.H.size → s.H.ob = s0.H.ob →
      (∀ (ka : Nat) (ma : MI), ms[ka]? = some ma → allocs ma.op = true → ka ∉ p → ∀ (k : Nat) (m : MI), ms[k]? = some m → (allocs m.op = true → k ∉ p) → ι (base + k) = none) → Rel B N s ι a w → HExt ιB sB.H wB ι s.H w → wpOpsIn (fR ro) 0 P opsF (Post B N sB ιB wB Q) (rest ++ suf) a w
  | [], p, s, ι, a, w, ho, h1, h2, h3, h3o, hι, hr, he => by
    simp only [List.append_nil] at ho
    subst ho
    have hall : ∀ k, k < ops.size → (fun k => decide (k ∈ order)) k = true := fun k hk => by simpa using (hv.all k).2 hk
    have hml : ms.length = ops.size := by simpa using (cList_get hms).1
    have e1 : s.τ = (ST ops.size).τ := by
      rw [h1]
      refine mix_all (F := fun k => (ST k).τ) (by rw [hT.first]) hall ?_
      intro k hk
      have hk' : k < ms.length := by omega
      have := (hT.step k ms[k] (List.getElem?_eq_getElem hk')).2
      simp only [this, put_τ, Eτ, List.getElem?_eq_getElem hk']
    have e2 : s.H.get = (ST ops.size).H.get := by
      rw [h2]
      refine mix_all (F := fun k => (ST k).H.get) (by rw [hT.first]) hall ?_
      intro k hk
      have hk' : k < ms.length := by omega
      obtain ⟨g1, g2⟩ := hT.step k ms[k] (List.getElem?_eq_getElem hk')
      simp only [g2, put_H, EH, List.getElem?_eq_getElem hk']
      have hsz := hsize k (by omega)
      obtain ⟨H2', _, _, _, _, _, g3⟩ := dstep_local (s2 := ST k) g1 (fun h => by rw [hsz]; exact hal k _ (List.getElem?_eq_getElem hk') h) rfl (fun _ _ => rfl) (fun _ _ => rfl)
      funext id
      by_cases hin : id ∈ touch (base + k) (ST k).τ ms[k].op
      · rw [ap_same hin]
      · rw [ap_out (by simpa [Function.comp_def] using hin)]; exact g3 id hin
    have hst : s = ST ops.size := St.ext' e1 (by rw [h3, hsize _ (Nat.le_refl _)]) e2 (by rw [h3o, hT.ob _ (by omega)])
    rw [hst] at hr he
    exact hend ι a w hr he
  | i :: rest, p, s, ι, a, w, ho, h1, h2, h3, h3o, hι, hr, he => by
    have hml : ms.length = ops.size := by simpa using (cList_get hms).1
    have hin : i ∈ order := by rw [ho]; simp
    have hilt : i < ops.size := (hv.all i).1 hin
    have hnp : i ∉ p := by
      have := hv.nodup
      rw [ho] at this
      intro hp
      exact (List.nodup_append.1 this).2.2 i hp i (by simp) rfl
    have hi' : i < ms.length := by omega
    obtain ⟨m, hm, hc⟩ := (cList_get hms).2 i i (by rw [List.getElem?_range hilt])
    obtain ⟨hstep, hnext⟩ := hT.step i m hm
    have hsz := hsize i (by omega)
    -- which operations stand where
    have pre_in : ∀ k, k < i → ((masks ops ops.size).getD i 0).testBit k = true → k ∈ p := fun k hk hb => before_in hv i hilt p rest ho k hb
    have not_after : ∀ k, i < k → k < ops.size → k ∈ p → ((masks ops ops.size).getD k 0).testBit i = false := by
      intro k hk hk2 hkp
      cases hb : ((masks ops ops.size).getD k 0).testBit i with
      | false => rfl
      | true =>
        exfalso
        obtain ⟨p1, p2, hp⟩ := List.append_of_mem hkp
        have := before_in hv k hk2 p1 (p2 ++ i :: rest) (by rw [ho, hp]; simp) i hb
        exact hnp (by rw [hp]; simp [this])
    have mk : ∀ k, k < ops.size → ∃ m', ms[k]? = some m' := fun k hk => ⟨ms[k]'(by omega), List.getElem?_eq_getElem (by omega)⟩
    have hSTτ : (ST i).τ = mix (Eτ ms V) (fun k => decide (k < i)) s0.τ ops.size := by
      rw [mix_low (by omega)]
      refine (mix_all (F := fun k => (ST k).τ) (by rw [hT.first]) (fun k hk => by simpa using hk) ?_).symm
      intro k hk
      obtain ⟨m', hm'⟩ := mk k (by omega)
      have := (hT.step k m' hm').2
      simp only [this, put_τ, Eτ, hm']
    have hHget : ∀ k, k < ops.size → (ST (k + 1)).H.get = ap (EH base ms ST HH k) (ST k).H.get := by
      intro k hk
      obtain ⟨m', hm'⟩ := mk k hk
      obtain ⟨g1, g2⟩ := hT.step k m' hm'
      simp only [g2, put_H, EH, hm']
      have hsz := hsize k (by omega)
      obtain ⟨H2', _, _, _, _, _, g3⟩ := dstep_local (s2 := ST k) g1 (fun h => by rw [hsz]; exact hal k _ hm' h) rfl (fun _ _ => rfl) (fun _ _ => rfl)
      funext id
      by_cases hin : id ∈ touch (base + k) (ST k).τ m'.op
      · rw [ap_same hin]
      · rw [ap_out (by simpa [Function.comp_def] using hin)]; exact g3 id hin
    have hSTH : (ST i).H.get = mix (EH base ms ST HH) (fun k => decide (k < i)) s0.H.get ops.size := by
      rw [mix_low (by omega)]
      exact (mix_all (F := fun k => (ST k).H.get) (by rw [hT.first]) (fun k hk => by simpa using hk) (fun k hk => hHget k (by omega))).symm
    -- what it reads is as in the text's order
    have hτ : ∀ t ∈ m.slots, s.τ t = (ST i).τ t := by
      intro t ht
      rw [h1, hSTτ]
      refine mix_congr ?_
      intro k hk hne hdom
      obtain ⟨m', hm'⟩ := mk k hk
      simp only [Eτ, hm'] at hdom
      cases hd : m'.dst with
      | none => rw [hd] at hdom; simp at hdom
      | some d =>
        rw [hd] at hdom
        simp at hdom
        subst hdom
        by_cases hki : k < i
        · have hkp : k ∉ p := by intro h; simp [hki, h] at hne
          have hb : ((masks ops ops.size).getD i 0).testBit k = false := by
            cases hb : ((masks ops ops.size).getD i 0).testBit k with
            | false => rfl
            | true => exact absurd (pre_in k hki hb) hkp
          exact ((hind k i m' m hki hm' hm hb).d1 _ hd).1 ht
        · have hkp : k ∈ p := by
            by_cases h : k ∈ p
            · exact h
            · simp [hki, h] at hne
          have hki2 : i < k := by
            rcases Nat.lt_or_ge i k with h | h
            · exact h
            · have : k = i := by omega
              subst this; exact absurd hkp hnp
          exact (hind i k m m' hki2 hm hm' (not_after k hki2 hk hkp)).d2 _ hd ht
    have hH : ∀ id ∈ foot (ST i).τ m.op ++ touch (base + i) (ST i).τ m.op, s.H.get id = (ST i).H.get id := by
      intro id hi
      rw [h2, hSTH]
      refine mix_congr ?_
      intro k hk hne hdom
      obtain ⟨m', hm'⟩ := mk k hk
      simp only [EH, hm', List.map_map] at hdom
      have hdom' : id ∈ touch (base + k) (ST k).τ m'.op := by simpa [Function.comp_def] using hdom
      by_cases hki : k < i
      · have hkp : k ∉ p := by intro h; simp [hki, h] at hne
        have hb : ((masks ops ops.size).getD i 0).testBit k = false := by
          cases hb : ((masks ops ops.size).getD i 0).testBit k with
          | false => rfl
          | true => exact absurd (pre_in k hki hb) hkp
        exact (hind k i m' m hki hm' hm hb).h1 id hdom' hi
      · have hkp : k ∈ p := by
          by_cases h : k ∈ p
          · exact h
          · simp [hki, h] at hne
        have hki2 : i < k := by
          rcases Nat.lt_or_ge i k with h | h
          · exact h
          · have : k = i := by omega
            subst this; exact absurd hkp hnp
        have hI := hind i k m m' hki2 hm hm' (not_after k hki2 hk hkp)
        rcases List.mem_append.1 hi with hi | hi
        · exact hI.h2 id hdom' hi
        · exact hI.h1 id hi (List.mem_append_right _ hdom')
    obtain ⟨H2', g1, g2, g2', g3, g4, g5⟩ := dstep_local (s2 := s) hstep (fun h => by rw [hsz]; exact hal i m hm h) (by rw [h3, hsz]) hτ hH
    -- the state behind it is again such a mixture
    have hins1 : (fun k => decide (k ∈ p)) i = false := by simpa using hnp
    have hins2 : (fun k => decide (k ∈ p ++ [i])) i = true := by simp
    have hins3 : ∀ k, k ≠ i → (fun k => decide (k ∈ p ++ [i])) k = (fun k => decide (k ∈ p)) k := fun k hk => by simp [hk]
    have nτ : (St.put ⟨s.τ, H2'⟩ m.dst (V i)).τ = mix (Eτ ms V) (fun k => decide (k ∈ p ++ [i])) s0.τ ops.size := by
      rw [mix_insert hins1 hins2 hins3 hilt, ← h1]
      · simp only [put_τ, Eτ, hm]
      · intro k hk hk2 hkp x hx hxi
        have hkp' : k ∈ p := by simpa using hkp
        obtain ⟨m', hm'⟩ := mk k hk2
        have hI := hind i k m m' hk hm hm' (not_after k hk hk2 hkp')
        simp only [Eτ, hm', hm] at hx hxi
        cases hd : m.dst with
        | none => rw [hd] at hxi; simp at hxi
        | some d =>
          cases hd' : m'.dst with
          | none => rw [hd'] at hx; simp at hx
          | some d' =>
            rw [hd'] at hx; rw [hd] at hxi
            simp at hx hxi
            exact (hI.d1 d hd).2 (by rw [hd', ← hx, hxi])
    have nH : (St.put ⟨s.τ, H2'⟩ m.dst (V i)).H.get = mix (EH base ms ST HH) (fun k => decide (k ∈ p ++ [i])) s0.H.get ops.size := by
      rw [mix_insert hins1 hins2 hins3 hilt, ← h2]
      · simp only [put_H, EH, hm]
        funext id
        by_cases hin : id ∈ touch (base + i) (ST i).τ m.op
        · rw [ap_same hin]; exact g3 id hin
        · rw [ap_out (by simpa [Function.comp_def] using hin)]; exact g4 id hin
      · intro k hk hk2 hkp x hx hxi
        have hkp' : k ∈ p := by simpa using hkp
        obtain ⟨m', hm'⟩ := mk k hk2
        have hI := hind i k m m' hk hm hm' (not_after k hk hk2 hkp')
        simp only [EH, hm', hm, List.map_map] at hx hxi
        have hx' : x ∈ touch (base + k) (ST k).τ m'.op := by simpa [Function.comp_def] using hx
        have hxi' : x ∈ touch (base + i) (ST i).τ m.op := by simpa [Function.comp_def] using hxi
        exact hI.h1 x hxi' (List.mem_append_right _ hx')
    have nsz : (St.put ⟨s.τ, H2'⟩ m.dst (V i)).H.size = s0.H.size := by rw [put_H, g2, h3]
    have nob : (St.put ⟨s.τ, H2'⟩ m.dst (V i)).H.ob = s0.H.ob := by rw [put_H, dstep_ob g1, h3o]
    have ih := draw_go hsub hms hT hsize hal hind hcall hend hv rest (p ++ [i]) (St.put ⟨s.τ, H2'⟩ m.dst (V i))
    -- and the program's own operation
    unfold cIdx at hc
    split at hc
    · cases hc
    rename_i o hoo
    split at hc
    · cases hc
    rename_i op hop
    split at hc
    rotate_left
    · cases hc
    rename_i hd
    have hd' : ∀ t, o.dst = some t → t < N := by
      intro t ht; rw [ht] at hd; simpa [dstOk] using hd
    have hmo : m.dst = o.dst ∧ m.op = op := by
      split at hc
      · simp only [Option.some.injEq] at hc; subst hc; exact ⟨rfl, rfl⟩
      · split at hc
        · split at hc
          · simp only [Option.some.injEq] at hc; subst hc; exact ⟨rfl, rfl⟩
          · cases hc
        · cases hc
    have hι' : ∀ ι' : Nat → Option Ref, (allocs m.op = true ∨ ι' (base + i) = none) → (∀ id, id ≠ base + i → ι' id = ι id) → ∀ (ka : Nat) (ma : MI), ms[ka]? = some ma → allocs ma.op = true → ka ∉ p ++ [i] → ∀ (k : Nat) (m : MI), ms[k]? = some m → (allocs m.op = true → k ∉ p ++ [i]) → ι' (base + k) = none := by
      intro ι' h0 h ka ma hma haa hka k m' hm' hk
      simp at hka
      by_cases hki : k = i
      · subst hki
        rcases h0 with h0 | h0
        · rw [hm] at hm'; injection hm' with hm'; subst hm'
          exact absurd (hk h0) (by simp)
        · exact h0
      · rw [h _ (by omega)]
        exact hι ka ma hma haa hka.1 k m' hm' fun ha hp => hk ha (by simp [hp])
    have run : dstep P Qt (base + i) { m with guard := none } s = some (V i, H2') → o.wpIn (fR ro) 0 P a w (wpOpsIn (fR ro) 0 P opsF (Post B N sB ιB wB Q) (rest ++ suf)) (Post B N sB ιB wB Q) := by
      intro hx
      refine ⟨fun _ _ => trivial, ?_⟩
      rw [Oper.semAt_eq _ _ _ (cOp_nodefer hop)]
      simp only [dstep, gcheck, hmo.2] at hx
      split at hx
      · rename_i f as hcl
        have hisC := mcallee_isCall hcl
        split at hx
        · rename_i r hrr
          simp only [Option.some.injEq, Prod.mk.injEq] at hx
          obtain ⟨hrV, hsH2⟩ := hx
          have hnal : allocs m.op = false := by
            rw [hmo.2]; cases op <;> first | rfl | (simp [MOp.isCall] at hisC)
          rcases hcall i m hm (by rw [hmo.2]; exact hisC) with ⟨hq, hnt⟩ | ⟨hq, hbs, hone⟩
          · obtain ⟨hq, hnt⟩ : QtOk P Qt s0.H ∧ ∀ (j : Nat) (mj : MI), ms[j]? = some mj → allocs mj.op = false ∧ ((∀ nid τ, touch nid τ mj.op = []) ∨ ((masks ops ops.size).getD j 0).testBit i = true) := ⟨hq, hnt⟩
            have hget : s.H.get = s0.H.get := by
              rw [h2]
              have key : ∀ n, n ≤ ops.size → mix (EH base ms ST HH) (fun k => decide (k ∈ p)) s0.H.get n = s0.H.get := by
                intro n
                induction n with
                | zero => intro _; rfl
                | succ n ih =>
                  intro hn
                  obtain ⟨m', hm'⟩ := mk n (by omega)
                  by_cases hnp' : n ∈ p
                  · have hq' : touch (base + n) (ST n).τ m'.op = [] := by
                      rcases (hnt n m' hm').2 with hq' | hb
                      · exact hq' _ _
                      · exfalso
                        obtain ⟨p1, p2, hp⟩ := List.append_of_mem hnp'
                        have := before_in hv n (by omega) p1 (p2 ++ i :: rest) (by rw [ho, hp]; simp) i hb
                        exact hnp (by rw [hp]; simp [this])
                    simp only [mix, EH, hm', hq', List.map_nil, ap, ih (by omega), ite_self]
                  · simp only [mix, hnp', decide_false, Bool.false_eq_true, if_false]; exact ih (by omega)
              exact key _ (Nat.le_refl _)
            have hsH : s.H = s0.H := by
              cases hA : s.H with
              | mk a b a3 =>
                cases hB : s0.H with
                | mk c d c3 =>
                  rw [hA, hB] at h3 hget h3o
                  simp only at h3 hget h3o
                  rw [h3, hget, h3o]
            obtain ⟨hcb, hA⟩ := hq f _ _ hrr
            rw [← hsH] at hA
            obtain ⟨f', args', us, hrun, hus, R, hR, hk⟩ := call_rel (s := s) (M := fun s' _ => s' = St.put ⟨s.τ, H2'⟩ m.dst (V i)) (K := fun _ => True) (d := m.dst) hop hisC (mexec_callee hcl ⟨hcb, _, hA, by rintro r' H' ⟨rfl, rfl⟩; rw [hrV, hsH2]⟩) hr (fun fv l id h hy => by subst h; simp [mcallee, hy] at hcl) (fun q h => by subst h; simp [mcallee] at hcl)
            rw [hrun]
            refine ⟨fun h => (by cases h), (callsR (hR ι w us hr.heap hus)).mono ?_⟩
            rintro e w' ⟨r', u, H', ι', rfl, hRr, hvv, hHH, hE⟩
            have hst := hk r' H' hRr
            refine ih ι' _ _ (by rw [ho]; simp) nτ nH nsz nob ?_ ?_ ?_
            · intro ka ma hma haa; exact absurd haa (by rw [(hnt ka ma hma).1]; simp)
            · rw [← hst, hmo.1]; exact hr.put hE hvv hHH hd'
            · rw [← hst, put_H]; exact he.trans hE
          · classical
            have hagree : ∀ id, (∀ (k : Nat) (m : MI), ms[k]? = some m → id ∉ touch (base + k) (ST k).τ m.op) → s.H.get id = s0.H.get id := by
              intro id hid
              rw [h2]
              have key : ∀ n, mix (EH base ms ST HH) (fun k => decide (k ∈ p)) s0.H.get n id = s0.H.get id := by
                intro n
                induction n with
                | zero => rfl
                | succ n ih =>
                  simp only [mix]
                  split
                  · rw [ap_out, ih]
                    unfold EH
                    split
                    · rename_i m' hm'
                      simpa [Function.comp_def] using hid n m' hm'
                    · simp
                  · exact ih
              exact key _
            by_cases hun : ∃ (ka : Nat) (ma : MI), ms[ka]? = some ma ∧ allocs ma.op = true ∧ ka ∉ p
            · -- nothing has been made yet: the callee is handed a heap that ends ahead of the names to come
              obtain ⟨ka, ma, hma, haa, hka⟩ := hun
              have hnone : ∀ id, base ≤ id → ι id = none := by
                intro id hid
                by_cases hlt : id < base + ops.size
                · obtain ⟨k, rfl⟩ : ∃ k, id = base + k := ⟨id - base, by omega⟩
                  obtain ⟨mk', hmk⟩ := mk k (by omega)
                  refine hι ka ma hma haa hka k mk' hmk fun h1 => ?_
                  rw [hone k ka mk' ma hmk hma h1 haa]; exact hka
                · exact hr.heap.fresh _ (by rw [h3]; omega)
              have hrc : Rel B N ⟨s.τ, ⟨base, s.H.get, s.H.ob⟩⟩ ι a w := ⟨hr.defers, hr.big, hr.size, hr.tmps, ⟨hnone, hr.heap.blk, hr.heap.apart, hr.heap.obs, hr.heap.oapart, hr.heap.gl⟩⟩
              obtain ⟨hcb, hA⟩ := hq ⟨base, s.H.get, s.H.ob⟩ hagree f _ _ hrr
              obtain ⟨f', args', us, hrun, hus, R, hR, hk⟩ := call_rel (s := ⟨s.τ, ⟨base, s.H.get, s.H.ob⟩⟩) (M := fun s' _ => s' = St.put ⟨s.τ, ⟨base, s.H.get, s.H.ob⟩⟩ m.dst (V i)) (K := fun _ => True) (d := m.dst) hop hisC (mexec_callee hcl ⟨hcb, _, hA, by rintro r' H' ⟨rfl, rfl⟩; rw [hrV]⟩) hrc (fun fv l id h hy => by subst h; simp [mcallee, hy] at hcl) (fun q h => by subst h; simp [mcallee] at hcl)
              rw [hrun]
              refine ⟨fun h => (by cases h), (callsR (hR ι w us hrc.heap hus)).mono ?_⟩
              rintro e w' ⟨r', u, H', ι', rfl, hRr, hvv, hHH, hE⟩
              have hst := hk r' H' hRr
              have hH' : H' = ⟨base, s.H.get, s.H.ob⟩ := by
                have := congrArg St.H hst
                simpa [put_H] using this
              subst hH'
              have hrv : St.put ⟨s.τ, s.H⟩ m.dst r' = St.put ⟨s.τ, H2'⟩ m.dst (V i) := by
                have h1 := congrArg St.τ hst
                rw [put_τ, put_τ] at h1
                rw [← hsH2]
                exact St.ext' (by rw [put_τ, put_τ]; exact h1) (by rw [put_H, put_H]) (by rw [put_H, put_H]) (by rw [put_H, put_H])
              have hHH2 : HRel ι' s.H w' := ⟨fun id hid => hHH.fresh id (by have h9 : s.H.size = s0.H.size := h3; have h10 : s.H.size ≤ id := hid; show base ≤ id; omega), hHH.blk, hHH.apart, hHH.obs, hHH.oapart, hHH.gl⟩
              have hE2 : HExt ι s.H w ι' s.H w' := ⟨hE.le, Nat.le_refl _, hE.wsize, hE.os, hE.tape, hE.output, hE.rows, hE.news, hE.newo⟩
              refine ih ι' _ _ (by rw [ho]; simp) nτ nH nsz nob ?_ ?_ ?_
              · intro ka' ma' _ _ _ k m' _ _; exact hHH.fresh _ (by show base ≤ base + k; omega)
              · rw [← hrv, hmo.1]; exact hr.put hE2 hvv hHH2 hd'
              · rw [← hrv, put_H]; exact he.trans hE2
            · obtain ⟨hcb, hA⟩ := hq s.H hagree f _ _ hrr
              obtain ⟨f', args', us, hrun, hus, R, hR, hk⟩ := call_rel (s := s) (M := fun s' _ => s' = St.put ⟨s.τ, H2'⟩ m.dst (V i)) (K := fun _ => True) (d := m.dst) hop hisC (mexec_callee hcl ⟨hcb, _, hA, by rintro r' H' ⟨rfl, rfl⟩; rw [hrV, hsH2]⟩) hr (fun fv l id h hy => by subst h; simp [mcallee, hy] at hcl) (fun q h => by subst h; simp [mcallee] at hcl)
              rw [hrun]
              refine ⟨fun h => (by cases h), (callsR (hR ι w us hr.heap hus)).mono ?_⟩
              rintro e w' ⟨r', u, H', ι', rfl, hRr, hvv, hHH, hE⟩
              have hst := hk r' H' hRr
              refine ih ι' _ _ (by rw [ho]; simp) nτ nH nsz nob ?_ ?_ ?_
              · intro ka ma hma haa hka; exact absurd ⟨ka, ma, hma, haa, fun h => hka (by simp [h])⟩ hun
              · rw [← hst, hmo.1]; exact hr.put hE hvv hHH hd'
              · rw [← hst, put_H]; exact he.trans hE
        · cases hx
      · rename_i hnc
        have hop' : op.isCall = false := by
          cases op with
          | call f as => simp [mstep] at hx
          | callv f as => simp [mstep] at hx
          | inv tab x as => simp [mstep] at hx
          | mq q => simp [mstep] at hx
          | _ => rfl
        -- the number of its block is free
        have hfree : ∃ nid, mstep nid s.τ s.H op = some (V i, H2') ∧ ι nid = none ∧ nid ≤ s.H.size ∧ ∀ (ι' : Nat → Option Ref) (w' : World), HRel ι' H2' w' → (∀ id, id ≠ nid → ι' id = ι id) → ∀ (ka : Nat) (ma : MI), ms[ka]? = some ma → allocs ma.op = true → ka ∉ p ++ [i] → ∀ (k : Nat) (m : MI), ms[k]? = some m → (allocs m.op = true → k ∉ p ++ [i]) → ι' (base + k) = none := by
          cases hal' : allocs op with
          | true =>
            have hlt := hal i m hm (by rw [hmo.2]; exact hal')
            refine ⟨base + i, hx, hι i m hm (by rw [hmo.2]; exact hal') hnp i m hm (fun _ => hnp), by omega, fun ι' w' _ h => hι' ι' (.inl (by rw [hmo.2]; exact hal')) h⟩
          | false =>
            refine ⟨s.H.size, by rw [nid_any hal' _ (base + i)]; exact hx, hr.heap.fresh _ (Nat.le_refl _), Nat.le_refl _, ?_⟩
            intro ι' w' hh h ka ma hma haa hka k m' hm' hk
            simp at hka
            by_cases hks : base + k = s.H.size
            · exact hh.fresh _ (by rw [g2, hks]; exact Nat.le_refl _)
            · rw [h _ hks]
              exact hι ka ma hma haa hka.1 k m' hm' fun ha hp => hk ha (by simp [hp])
        obtain ⟨nid, hx2, hn1, hn2, hn3⟩ := hfree
        obtain ⟨x, w', ι', hrun, hvv, hHH, hE, hid'⟩ := step_all hr.tmps hr.heap hop hx2 hn1 hn2
        have fin : wpOpsIn (fR ro) 0 P opsF (Post B N sB ιB wB Q) (rest ++ suf) (a.put o.dst x) w' := by
          refine ih ι' _ _ (by rw [ho]; simp) nτ nH nsz nob (hn3 ι' w' hHH hid') ?_ ?_
          · rw [hmo.1]; exact hr.put hE hvv hHH hd'
          · rw [put_H]; exact he.trans hE
        rcases hrun with hrun | ⟨hrun, rfl⟩
        · rw [hrun]; exact fin
        · rw [hrun]; exact fin
    have skip : V i = .tuple [] → H2' = s.H → wpOpsIn (fR ro) 0 P opsF (Post B N sB ιB wB Q) (rest ++ suf) (a.put o.dst undef) w := by
      intro hV hHs
      refine ih ι _ _ (by rw [ho]; simp) nτ nH nsz nob (fun ka ma hma haa hka => ?_) ?_ ?_
      · simp at hka
        exact fun k m' hm' hk => hι ka ma hma haa hka.1 k m' hm' fun ha hp => hk ha (by simp [hp])
      · rw [hmo.1, hV, hHs]; exact hr.put (HExt.refl _ _ _) (undef_rel ι) hr.heap hd'
      · rw [put_H, hHs]; exact he
    simp only [List.cons_append, wpOpsIn, hsub i o hoo]
    unfold dstep at g1
    cases hg : o.guard with
    | none =>
      rw [hg] at hc
      simp only [Option.some.injEq] at hc
      have hmg : m.guard = none := by rw [← hc]
      rw [if_pos (by simp [Region.wanted, hg])]
      refine run ?_
      simp only [hmg, gcheck] at g1
      simpa only [dstep, gcheck] using g1
    | some q =>
      obtain ⟨j, want⟩ := q
      rw [hg] at hc
      simp only at hc
      split at hc
      rotate_left
      · cases hc
      rename_i t hjt0
      have hjt : (opsF[j]?).bind (·.dst) = some t := by
        rw [Option.bind_eq_some_iff] at hjt0 ⊢
        obtain ⟨oj, hoj, hdj⟩ := hjt0
        exact ⟨oj, hsub j oj hoj, hdj⟩
      split at hc
      rotate_left
      · cases hc
      rename_i htN
      simp only [Option.some.injEq] at hc
      have hmg : m.guard = some (t, want) := by rw [← hc]
      have hget : a.tmps[t]? = some (a.tmps.getD t undef) := by
        have : t < a.tmps.size := by rw [hr.size]; exact htN
        rw [Array.getD_eq_getD_getElem?, Array.getElem?_eq_getElem this]; rfl
      have hrel := hr.tmps t
      rw [hmg] at g1
      simp only [gcheck] at g1
      split at g1
      · cases g1
      · rename_i hgc
        simp only [Option.some.injEq, Prod.mk.injEq] at g1
        have hw : Region.wanted o (yielded opsF a.tmps) = false := by
          split at hgc
          · rename_i b hb
            rw [hb] at hrel
            simp only [VRel] at hrel
            simp only [Option.some.injEq, decide_eq_false_iff_not] at hgc
            have hy : yielded opsF a.tmps j = some b := by simp only [yielded, hjt, Option.bind_some, hget, hrel]
            simp [Region.wanted, hg, hy, hgc]
          · rename_i hb
            rw [hb] at hrel
            simp only [VRel, VRelL] at hrel
            obtain ⟨vs, hv', hvs⟩ := hrel
            have hy : yielded opsF a.tmps j = none := by simp only [yielded, hjt, Option.bind_some, hget, hv']
            simp [Region.wanted, hg, hy]
          · cases hgc
        rw [if_neg (by rw [hw]; simp)]
        exact ⟨fun _ _ => trivial, skip g1.1.symm g1.2.symm⟩
      · rename_i hgc
        have hw : Region.wanted o (yielded opsF a.tmps) = true := by
          split at hgc
          · rename_i b hb
            rw [hb] at hrel
            simp only [VRel] at hrel
            simp only [Option.some.injEq, decide_eq_true_eq] at hgc
            have hy : yielded opsF a.tmps j = some b := by simp only [yielded, hjt, Option.bind_some, hget, hrel]
            simp [Region.wanted, hg, hy, hgc]
          · cases hgc
          · cases hgc
        rw [if_pos hw]
        refine run ?_
        simpa only [dstep, gcheck] using g1
end
end Go.Rx
