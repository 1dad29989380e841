/-
  RxM: code: how it is taken up, what is to be shown of it, and that this is enough.
-/
import Derived.Test.YtmjhopdonddpcabRxL
namespace Go.Rx
set_option linter.unusedVariables false
set_option linter.unusedSimpArgs false

inductive MC where
  | skip
  | reg (l : List MI)
  | drq (l : List MI)
  | drw (l : List MI) (prs : List (Nat × Nat))
  | seq (a b : MC)
  | cond (c : MX) (a b : MC)
  | block (id : Nat) (a : MC)
  | loop (a : MC)
  | exit (id : Nat)
  | ret


def slotOk (mi mj : MI) : Bool :=
  (match mi.dst with | some d => !(mj.slots.contains d) && !(mj.dst == some d) | none => true) &&
  (match mj.dst with | some d => !(mi.slots.contains d) | none => true)

/-- the pairs that no edge orders -/
def unord (ops : Array Oper) (ms : List Nat) : List (Nat × Nat) :=
  (List.range ops.size).flatMap fun j => ((List.range j).filter fun i => !((ms.getD j 0).testBit i)).map fun i => (i, j)

def writes : MOp → Bool
  | .st .. | .app .. | .mks .. | .bsl .. | .box .. | .new .. => true
  | _ => false

def reads : MOp → Bool
  | .ld .. | .st .. | .app .. => true
  | _ => false

def mayMeet (mi mj : MI) : Bool := (writes mi.op && (writes mj.op || reads mj.op)) || (reads mi.op && writes mj.op)

def pairOk (l : List MI) (f : MI → MI → Bool) (q : Nat × Nat) : Bool :=
  match l[q.1]?, l[q.2]? with
  | some a, some b => f a b
  | _, _ => true

def cDraw (P : Program) (N : Nat) (ops : Array Oper) : Option MC :=
  match cList P N ops (List.range ops.size) with
  | none => none
  | some l =>
    if edgesOk ops = true ∧ (unord ops (masks ops ops.size)).all (pairOk l slotOk) = true then
      if l.all (fun m => !writes m.op) = true then some (.drq l)
      else if l.all (fun m => !m.op.isCall) = true then some (.drw l ((unord ops (masks ops ops.size)).filter (pairOk l mayMeet)))
      else none
    else none

def qops (Qt : FuncId → List AV → Option AV) : List MI → St → (St → Prop) → Prop
  | [], s, K => K s
  | m :: r, s, K => match dstep Qt s.H.size m s with
    | some (v, H') => qops Qt r (St.put ⟨s.τ, H'⟩ m.dst v) K
    | none => False

def pairsOk (fs : List (List Nat × List Nat)) : List (Nat × Nat) → Prop
  | [] => True
  | (i, j) :: r => (match fs[i]?, fs[j]? with
    | some (fi, ti), some (fj, tj) => (∀ id, id ∈ ti → id ∉ fj ++ tj) ∧ ∀ id, id ∈ tj → id ∉ fi
    | _, _ => False) ∧ pairsOk fs r

def dops (base : Nat) : Nat → List MI → St → List (List Nat × List Nat) → List (Nat × Nat) → (St → Prop) → Prop
  | _, [], s, acc, prs, K => pairsOk acc prs ∧ K s
  | k, m :: r, s, acc, prs, K => match dstep (fun _ _ => none) (base + k) m s with
    | some (v, H') => dops base (k + 1) r (St.put ⟨s.τ, H'⟩ m.dst v) (acc ++ [(foot s.τ m.op, touch (base + k) s.τ m.op)]) prs K
    | none => False

def Heap.ext (H : Heap) (n : Nat) : Heap := ⟨H.size + n, H.get⟩

def mdrq (P : Program) (l : List MI) (Q : Exit → St → Prop) (s : St) : Prop :=
  ∃ Qt, QtOk P Qt s.H ∧ qops Qt l s (Q .normal)
def cCode (P : Program) (N : Nat) : Code → Option MC
  | .skip => some .skip
  | .region _ ops false => (cList P N ops (List.range ops.size)).map .reg
  | .region _ ops true => cDraw P N ops
  | .seq a b => match cCode P N a, cCode P N b with
    | some a, some b => some (.seq a b)
    | _, _ => none
  | .cond c a b => match cX c, cCode P N a, cCode P N b with
    | some c, some a, some b => some (.cond c a b)
    | _, _, _ => none
  | .block id a => (cCode P N a).map (.block id)
  | .loop a => (cCode P N a).map .loop
  | .exit id => some (.exit id)
  | .ret => some .ret
  | _ => none

def seqK (Q : Exit → St → Prop) (W : (Exit → St → Prop) → St → Prop) : Exit → St → Prop
  | .normal, s => W Q s
  | e, s => Q e s

def blockK (id : Nat) (Q : Exit → St → Prop) : Exit → St → Prop
  | .exit id', s => if id' = id then Q .normal s else Q (.exit id') s
  | e, s => Q e s

def loopK (I : St → Prop) (μ : St → Nat) (m : Nat) (Q : Exit → St → Prop) : Exit → St → Prop
  | .normal, s => I s ∧ μ s < m
  | e, s => Q e s

def mloop (W : (Exit → St → Prop) → St → Prop) (Q : Exit → St → Prop) (s : St) : Prop :=
  ∃ (I : St → Prop) (μ : St → Nat), I s ∧ ∀ s', I s' → W (loopK I μ (μ s') Q) s'

def mcond (c : AV) (A B : (Exit → St → Prop) → St → Prop) (Q : Exit → St → Prop) (s : St) : Prop :=
  match c with
  | .bool b => (b = true → A Q s) ∧ (b = false → B Q s)
  | _ => False

def mwp (P : Program) : MC → (Exit → St → Prop) → St → Prop
  | .skip, Q, s => Q .normal s
  | .reg l, Q, s => mops P l s (Q .normal)
  | .drq l, Q, s => mdrq P l Q s
  | .drw l prs, Q, s => dops s.H.size 0 l ⟨s.τ, s.H.ext l.length⟩ [] prs (Q .normal)
  | .seq a b, Q, s => mwp P a (seqK Q (mwp P b)) s
  | .cond c a b, Q, s => mcond (c.ev s.τ) (mwp P a) (mwp P b) Q s
  | .block id a, Q, s => mwp P a (blockK id Q) s
  | .loop a, Q, s => mloop (mwp P a) Q s
  | .exit id, Q, s => Q (.exit id) s
  | .ret, Q, s => Q .ret s


theorem dstep_nid {Qt : FuncId → List AV → Option AV} {m : MI} (h : allocs m.op = false) (nid nid' : Nat) (s : St) : dstep Qt nid m s = dstep Qt nid' m s := by
  unfold dstep
  split
  · rfl
  · rfl
  · split
    · rfl
    · exact nid_any h nid nid' _ _

theorem writes_quiet {m : MOp} (h : writes m = false) : allocs m = false ∧ ∀ nid τ, touch nid τ m = [] := by
  cases m <;> simp [writes] at h <;> exact ⟨rfl, fun _ _ => rfl⟩

theorem dstep_quiet {Qt : FuncId → List AV → Option AV} {nid : Nat} {m : MI} (hw : writes m.op = false) {s : St} {v : AV} {H' : Heap} (h : dstep Qt nid m s = some (v, H')) : H' = s.H := by
  obtain ⟨h1, h2⟩ := writes_quiet hw
  obtain ⟨_, _, _, e1, _, _, e2⟩ := dstep_local (s2 := s) h (fun ha => by rw [h1] at ha; cases ha) rfl (fun _ _ => rfl) (fun _ _ => rfl)
  have : H'.get = s.H.get := by funext id; exact e2 id (by rw [h2]; simp)
  cases H' with
  | mk a b =>
    cases hs : s.H with
    | mk c d =>
      rw [hs] at e1 this
      simp only at e1 this
      rw [e1, this]

theorem text_of_qops {Qt : FuncId → List AV → Option AV} {K : St → Prop} (base : Nat) : ∀ (l : List MI) (s : St) (k : Nat), (∀ m ∈ l, writes m.op = false) → qops Qt l s K →
    ∃ (ST : Nat → St) (V : Nat → AV) (HH : Nat → Heap), ST k = s ∧ (∀ (j : Nat) (m : MI), l[j]? = some m → dstep Qt (base + (k + j)) m (ST (k + j)) = some (V (k + j), HH (k + j)) ∧ ST (k + j + 1) = St.put ⟨(ST (k + j)).τ, HH (k + j)⟩ m.dst (V (k + j))) ∧
      K (ST (k + l.length)) ∧ ∀ j, j ≤ l.length → (ST (k + j)).H = s.H
  | [], s, k, _, h => ⟨fun _ => s, fun _ => .any, fun _ => s.H, rfl, by simp, h, by intro j hj; rfl⟩
  | m :: r, s, k, hw, h => by
    simp only [qops] at h
    split at h
    · rename_i v H' hd
      have hwm := hw m (by simp)
      have hH := dstep_quiet hwm hd
      obtain ⟨ST, V, HH, h1, h2, h3, h4⟩ := text_of_qops base r _ (k + 1) (fun m' hm' => hw m' (by simp [hm'])) h
      refine ⟨fun n => if n = k then s else ST n, fun n => if n = k then v else V n, fun n => if n = k then H' else HH n, by simp, ?_, ?_, ?_⟩
      · intro j m' hj
        cases j with
        | zero =>
          simp at hj; subst hj
          simp only [Nat.add_zero, if_true]
          refine ⟨by rw [dstep_nid (writes_quiet hwm).1 _ s.H.size]; exact hd, ?_⟩
          rw [if_neg (by omega)]; exact h1
        | succ j =>
          simp at hj
          have := h2 j m' hj
          dsimp only
          rw [if_neg (by omega), if_neg (by omega), if_neg (by omega), if_neg (by omega)]
          have e : k + (j + 1) = k + 1 + j := by omega
          rw [e]; exact this
      · dsimp only
        rw [if_neg (by simp)]
        have e : k + (m :: r).length = k + 1 + r.length := by simp; omega
        rw [e]; exact h3
      · intro j hj
        cases j with
        | zero => simp
        | succ j =>
          dsimp only
          rw [if_neg (by omega)]
          have e : k + (j + 1) = k + 1 + j := by omega
          rw [e, h4 j (by simpa using hj), put_H, hH]
    · exact h.elim

theorem text_of_dops {K : St → Prop} {base : Nat} {prs : List (Nat × Nat)} : ∀ (l : List MI) (s : St) (k : Nat) (acc : List (List Nat × List Nat)), acc.length = k → dops base k l s acc prs K →
    ∃ (ST : Nat → St) (V : Nat → AV) (HH : Nat → Heap) (fs : List (List Nat × List Nat)), ST k = s ∧ (∀ (j : Nat) (m : MI), l[j]? = some m → dstep (fun _ _ => none) (base + (k + j)) m (ST (k + j)) = some (V (k + j), HH (k + j)) ∧ ST (k + j + 1) = St.put ⟨(ST (k + j)).τ, HH (k + j)⟩ m.dst (V (k + j))) ∧
      K (ST (k + l.length)) ∧ pairsOk (acc ++ fs) prs ∧ ∀ (j : Nat) (m : MI), l[j]? = some m → fs[j]? = some (foot (ST (k + j)).τ m.op, touch (base + (k + j)) (ST (k + j)).τ m.op)
  | [], s, k, acc, ha, h => ⟨fun _ => s, fun _ => .any, fun _ => s.H, [], rfl, by simp, h.2, by simpa using h.1, by simp⟩
  | m :: r, s, k, acc, ha, h => by
    simp only [dops] at h
    split at h
    · rename_i v H' hd
      obtain ⟨ST, V, HH, fs, h1, h2, h3, h4, h5⟩ := text_of_dops r _ (k + 1) _ (by simp [ha]) h
      refine ⟨fun n => if n = k then s else ST n, fun n => if n = k then v else V n, fun n => if n = k then H' else HH n, (foot s.τ m.op, touch (base + k) s.τ m.op) :: fs, by simp, ?_, ?_, ?_, ?_⟩
      · intro j m' hj
        cases j with
        | zero =>
          simp at hj; subst hj
          simp only [Nat.add_zero, if_true]
          refine ⟨hd, ?_⟩
          rw [if_neg (by omega)]; exact h1
        | succ j =>
          simp at hj
          have := h2 j m' hj
          dsimp only
          rw [if_neg (by omega), if_neg (by omega), if_neg (by omega), if_neg (by omega)]
          have e : k + (j + 1) = k + 1 + j := by omega
          rw [e]; exact this
      · dsimp only
        rw [if_neg (by simp)]
        have e : k + (m :: r).length = k + 1 + r.length := by simp; omega
        rw [e]; exact h3
      · simpa using h4
      · intro j m' hj
        cases j with
        | zero => simp at hj; subst hj; simp
        | succ j =>
          simp at hj
          have := h5 j m' hj
          simp only [List.getElem?_cons_succ]
          rw [if_neg (by omega)]
          have e : k + (j + 1) = k + 1 + j := by omega
          rw [e]; exact this
    · exact h.elim

theorem unord_mem {ops : Array Oper} {ms : List Nat} {i j : Nat} (hij : i < j) (hj : j < ops.size) (hb : (ms.getD j 0).testBit i = false) : (i, j) ∈ unord ops ms := by
  unfold unord
  rw [List.mem_flatMap]
  refine ⟨j, by simpa using hj, ?_⟩
  rw [List.mem_map]
  refine ⟨i, ?_, rfl⟩
  rw [List.mem_filter]
  exact ⟨by simpa using hij, by rw [hb]; rfl⟩

theorem slotOk_d {mi mj : MI} (h : slotOk mi mj = true) : (∀ d, mi.dst = some d → d ∉ mj.slots ∧ mj.dst ≠ some d) ∧ ∀ d, mj.dst = some d → d ∉ mi.slots := by
  unfold slotOk at h
  rw [Bool.and_eq_true] at h
  constructor
  · intro d hd
    have := h.1
    rw [hd] at this
    simpa using this
  · intro d hd
    have := h.2
    rw [hd] at this
    simpa using this

theorem pairsOk_get {fs : List (List Nat × List Nat)} : ∀ {prs : List (Nat × Nat)} {i j : Nat} {fi ti fj tj : List Nat}, pairsOk fs prs → (i, j) ∈ prs → fs[i]? = some (fi, ti) → fs[j]? = some (fj, tj) →
    (∀ id, id ∈ ti → id ∉ fj ++ tj) ∧ ∀ id, id ∈ tj → id ∉ fi
  | [], _, _, _, _, _, _, _, h, _, _ => by simp at h
  | (a, b) :: r, i, j, fi, ti, fj, tj, h, hm, h1, h2 => by
    simp only [pairsOk] at h
    rcases List.mem_cons.1 hm with he | hm
    · injection he with e1 e2; subst e1; subst e2
      rw [h1, h2] at h
      exact h.1
    · exact pairsOk_get h.2 hm h1 h2

theorem foot_quiet {m : MOp} (h : reads m = false) (τ : Nat → AV) : foot τ m = [] := by
  cases m <;> simp [reads] at h <;> rfl

theorem reads_or {m : MOp} (hr : reads m = false) (hw : writes m = false) (nid : Nat) (τ : Nat → AV) : foot τ m ++ touch nid τ m = [] := by
  rw [foot_quiet hr, (writes_quiet hw).2]; rfl

theorem HRel.ext {ι : Nat → Option Ref} {H : Heap} {w : World} (h : HRel ι H w) (n : Nat) : HRel ι (H.ext n) w :=
  ⟨fun id hid => h.fresh id (by simp only [Heap.ext] at hid; omega), h.blk, h.apart⟩

theorem HExt.ext_left {ι ι' : Nat → Option Ref} {H H' : Heap} {w w' : World} {n : Nat} (h : HExt ι (H.ext n) w ι' H' w') : HExt ι H w ι' H' w' :=
  ⟨h.le, by have := h.size; simp only [Heap.ext] at this; omega, h.wsize, h.os, h.tape, h.output, h.rows, h.news⟩

/-- a region that draws, whatever it draws -/
theorem draw_sound {P : Program} {N : Nat} {id : Nat} {ops : Array Oper} {mc : MC} (hmx : P.follows .mixedOrders = true) (hc : cDraw P N ops = some mc) {Q : Exit → St → Prop} {s : St} (h : mwp P mc Q s) : AWp P N (.region id ops true) Q s := by
  intro ι a w hr
  refine wp_region_draw fun t => ?_
  have hsched : Region.schedule (P.follows .mixedOrders) ops t = Region.linearise .any ops t := by simp [Region.schedule, hmx]
  rw [hsched]
  unfold cDraw at hc
  split at hc
  · cases hc
  rename_i l hl
  split at hc
  rotate_left
  · cases hc
  rename_i hok
  obtain ⟨hok1, hok2⟩ := hok
  have hv := linearise_valid hok1 t
  have hml : l.length = ops.size := by simpa using (cList_get hl).1
  rw [List.all_eq_true] at hok2
  have hslot : ∀ (i j : Nat) (mi mj : MI), i < j → l[i]? = some mi → l[j]? = some mj → ((masks ops ops.size).getD j 0).testBit i = false → slotOk mi mj = true := by
    intro i j mi mj hij hi hj hb
    have hjl : j < ops.size := by rw [← hml]; exact (List.getElem?_eq_some_iff.1 hj).1
    have := hok2 (i, j) (unord_mem hij hjl hb)
    simpa [pairOk, hi, hj] using this
  have hr' : Rel N s ι a { w with drawn := w.drawn + 1 } := ⟨hr.defers, hr.size, hr.tmps, hr.heap.drew 1⟩
  have hE : HExt ι s.H w ι s.H { w with drawn := w.drawn + 1 } := HExt.drew 1
  split at hc
  · rename_i hq
    simp only [Option.some.injEq] at hc; subst hc
    rw [List.all_eq_true] at hq
    have hw : ∀ m ∈ l, writes m.op = false := fun m hm => by simpa using hq m hm
    simp only [mwp, mdrq] at h
    obtain ⟨Qt, hQt, hops⟩ := h
    obtain ⟨ST, V, HH, h1, h2, h3, h4⟩ := text_of_qops s.H.size l s 0 hw hops
    simp only [Nat.zero_add] at h2 h3 h4
    have hwg : ∀ (k : Nat) (m : MI), l[k]? = some m → writes m.op = false := fun k m hm => hw m (List.mem_of_getElem? hm)
    refine draw_go (base := s.H.size) (s0 := s) (ST := ST) (V := V) (HH := HH) (Qt := Qt) hl ⟨h1, h2⟩ (fun k hk => by rw [h4 k (by omega)]) ?_ ?_ ?_ (by rw [← hml]; exact h3) hv _ [] s ι a _ rfl ?_ ?_ rfl ?_ hr' hE
    · intro k m hm ha; rw [(writes_quiet (hwg k m hm)).1] at ha; cases ha
    · intro i j mi mj hij hi hj hb
      obtain ⟨d1, d2⟩ := slotOk_d (hslot i j mi mj hij hi hj hb)
      exact ⟨d1, d2, by rw [(writes_quiet (hwg i mi hi)).2]; simp, by rw [(writes_quiet (hwg j mj hj)).2]; simp⟩
    · intro k m f as hm hop
      exact ⟨hQt, fun j mj nid τ hj => ⟨(writes_quiet (hwg j mj hj)).2 nid τ, (writes_quiet (hwg j mj hj)).1⟩⟩
    · have key : ∀ n, s.τ = mix (Eτ l V) (fun k => decide (k ∈ ([] : List Nat))) s.τ n := by
        intro n; induction n with
        | zero => rfl
        | succ n ih => simp only [mix]; simpa using ih
      exact key _
    · have key : ∀ n, s.H.get = mix (EH s.H.size l ST HH) (fun k => decide (k ∈ ([] : List Nat))) s.H.get n := by
        intro n; induction n with
        | zero => rfl
        | succ n ih => simp only [mix]; simpa using ih
      exact key _
    · intro k m hm ha; rw [(writes_quiet (hwg k m hm)).1] at ha; cases ha
  · split at hc
    rotate_left
    · cases hc
    rename_i hnc
    simp only [Option.some.injEq] at hc; subst hc
    rw [List.all_eq_true] at hnc
    simp only [mwp] at h
    obtain ⟨ST, V, HH, fs, h1, h2, h3, h4, h5⟩ := text_of_dops l _ 0 [] rfl h
    simp only [Nat.zero_add, List.nil_append] at h2 h3 h4 h5
    have hsz : ∀ k, k ≤ ops.size → (ST k).H.size = s.H.size + l.length := by
      intro k
      induction k with
      | zero => intro _; rw [h1]; rfl
      | succ k ih =>
        intro hk
        have hk' : k < l.length := by omega
        obtain ⟨g1, g2⟩ := h2 k l[k] (List.getElem?_eq_getElem hk')
        obtain ⟨_, _, _, e, _⟩ := dstep_local (s2 := ST k) g1 (fun _ => by rw [ih (by omega)]; omega) rfl (fun _ _ => rfl) (fun _ _ => rfl)
        rw [g2, put_H, e, ih (by omega)]
    have hr2 : Rel N ⟨s.τ, s.H.ext l.length⟩ ι a { w with drawn := w.drawn + 1 } := ⟨hr'.defers, hr'.size, hr'.tmps, hr'.heap.ext _⟩
    have hE2 : HExt ι s.H w ι (s.H.ext l.length) { w with drawn := w.drawn + 1 } := ⟨hE.le, by simp [Heap.ext], hE.wsize, hE.os, hE.tape, hE.output, hE.rows, hE.news⟩
    refine draw_go (base := s.H.size) (s0 := ⟨s.τ, s.H.ext l.length⟩) (ST := ST) (V := V) (HH := HH) (Qt := fun _ _ => none) (sB := s) (ιB := ι) hl ⟨h1, h2⟩ (fun k hk => by rw [hsz k hk]; rfl) ?_ ?_ ?_ (by rw [← hml]; exact h3) hv _ [] ⟨s.τ, s.H.ext l.length⟩ ι a _ rfl ?_ ?_ rfl ?_ hr2 hE2
    · intro k m hm ha
      have := (List.getElem?_eq_some_iff.1 hm).1
      simp only [Heap.ext]; omega
    · intro i j mi mj hij hi hj hb
      obtain ⟨d1, d2⟩ := slotOk_d (hslot i j mi mj hij hi hj hb)
      have hjl : j < ops.size := by rw [← hml]; exact (List.getElem?_eq_some_iff.1 hj).1
      have hun := unord_mem hij hjl hb
      cases hmm : mayMeet mi mj with
      | true =>
        have hin : (i, j) ∈ (unord ops (masks ops ops.size)).filter (pairOk l mayMeet) := by
          rw [List.mem_filter]; exact ⟨hun, by simp [pairOk, hi, hj, hmm]⟩
        obtain ⟨g1, g2⟩ := pairsOk_get h4 hin (h5 i mi hi) (h5 j mj hj)
        exact ⟨d1, d2, g1, g2⟩
      | false =>
        unfold mayMeet at hmm
        simp only [Bool.or_eq_false_iff, Bool.and_eq_false_iff] at hmm
        obtain ⟨m1, m2⟩ := hmm
        refine ⟨d1, d2, ?_, ?_⟩
        · intro id hid
          rcases m1 with m1 | m1
          · rw [(writes_quiet m1).2] at hid; simp at hid
          · rw [reads_or m1.2 m1.1]; simp
        · intro id hid
          rcases m2 with m2 | m2
          · rw [foot_quiet m2]; simp
          · rw [(writes_quiet m2).2] at hid; simp at hid
    · intro k m f as hm hop
      have := hnc m (List.mem_of_getElem? hm)
      rw [hop] at this
      simp [MOp.isCall] at this
    · have key : ∀ n, s.τ = mix (Eτ l V) (fun k => decide (k ∈ ([] : List Nat))) s.τ n := by
        intro n; induction n with
        | zero => rfl
        | succ n ih => simp only [mix]; simpa using ih
      exact key _
    · have key : ∀ n, (s.H.ext l.length).get = mix (EH s.H.size l ST HH) (fun k => decide (k ∈ ([] : List Nat))) (s.H.ext l.length).get n := by
        intro n; induction n with
        | zero => rfl
        | succ n ih => simp only [mix]; simpa using ih
      exact key _
    · intro k m hm ha hk
      exact hr.heap.fresh _ (by omega)

theorem Post.trans {N : Nat} {s s' : St} {ι ι' : Nat → Option Ref} {w w' : World} {Q : Exit → St → Prop} {e : Exit} {a : Act} {w2 : World} (hE : HExt ι s.H w ι' s'.H w') (h : Post N s' ι' w' Q e a w2) : Post N s ι w Q e a w2 := by
  obtain ⟨t, κ, hQ, hR, hE2⟩ := h
  exact ⟨t, κ, hQ, hR, hE.trans hE2⟩

/-- a loop's round, entered -/
def InLoop (P : Program) (c : Code) (Q : Exit → Act → World → Prop) (a : Act) (w : World) : Prop :=
  ∀ (b : Frame) (k : List Item) (cs : List Frame), ∃ e a' w', Q e a' w' ∧ Arrives P (lone (b.at a (.code c :: .inLoop c :: k)) cs w) b k cs e a' w'

theorem wp_of_inLoop {P : Program} {c : Code} {Q : Exit → Act → World → Prop} {a : Act} {w : World} (h : InLoop P c Q a w) : (Code.loop c).wp P Q a w := by
  intro b k cs
  obtain ⟨e, a', w', hq, harr⟩ := h b k cs
  exact ⟨e, a', w', hq, .of_steps (.one step_loop) harr⟩

theorem inLoop_of {P : Program} {c : Code} {Q : Exit → Act → World → Prop} {a : Act} {w : World} (h : c.wp P (Exit.then (InLoop P c Q) Q) a w) : InLoop P c Q a w := by
  intro b k cs
  obtain ⟨e, a₁, w₁, hq, harr⟩ := h b (.inLoop c :: k) cs
  cases e with
  | normal =>
    obtain ⟨e₂, a₂, w₂, hq₂, harr₂⟩ := hq b k cs
    exact ⟨e₂, a₂, w₂, hq₂, .of_steps (Steps.trans harr (.one step_inLoop)) harr₂⟩
  | exit id => exact ⟨_, a₁, w₁, hq, .pass (x := .inLoop c) rfl (fun _ _ => .inl (by simp)) harr⟩
  | goto l => exact ⟨_, a₁, w₁, hq, .pass (x := .inLoop c) rfl (fun _ _ => .inl (by simp)) harr⟩
  | ret => exact ⟨_, a₁, w₁, hq, .pass (x := .inLoop c) rfl (fun _ _ => .inl (by simp)) harr⟩
  | panic ch => exact ⟨_, a₁, w₁, hq, .pass (x := .inLoop c) rfl (fun _ _ => .inl (by simp)) harr⟩
  | outgrown => exact ⟨_, a₁, w₁, hq, .pass (x := .inLoop c) rfl (fun _ _ => .inl (by simp)) harr⟩

theorem code_sound {P : Program} {N : Nat} (hmx : P.follows .mixedOrders = true) : ∀ (c : Code) (mc : MC), cCode P N c = some mc → ∀ (Q : Exit → St → Prop) (s : St), mwp P mc Q s → AWp P N c Q s := by
  intro c
  induction c with
  | skip =>
    intro mc hc Q s h ι a w hr
    simp only [cCode, Option.some.injEq] at hc; subst hc
    exact wp_skip (Post.refl h hr)
  | region id ops draw =>
    intro mc hc Q s h ι a w hr
    cases draw with
    | false =>
      simp only [cCode, Option.map_eq_some_iff] at hc
      obtain ⟨l, hl, rfl⟩ := hc
      exact wp_region (ops_sound _ l s ι a w hl h hr (HExt.refl _ _ _))
    | true =>
      simp only [cCode] at hc
      exact draw_sound (id := id) hmx hc h ι a w hr
  | seq x y ihx ihy =>
    intro mc hc Q s h ι a w hr
    simp only [cCode] at hc
    split at hc
    · rename_i mx my hx hy
      simp only [Option.some.injEq] at hc; subst hc
      simp only [mwp] at h
      refine wp_seq (wp_mono (ihx mx hx _ s h ι a w hr) ?_)
      rintro e a' w' ⟨s', ι', hq, hr', hE⟩
      cases e with
      | normal => exact wp_mono (ihy my hy Q s' hq ι' a' w' hr') fun e a2 w2 hp => hp.trans hE
      | _ => exact ⟨s', ι', hq, hr', hE⟩
    · cases hc
  | cond x y z ihy ihz =>
    intro mc hc Q s h ι a w hr
    simp only [cCode] at hc
    split at hc
    · rename_i mx my mz hx hy hz
      simp only [Option.some.injEq] at hc; subst hc
      simp only [mwp, mcond] at h
      split at h
      · rename_i b hb
        have e1 := ev_rel hr.tmps hx
        rw [hb] at e1
        simp only [VRel] at e1
        exact wp_cond_split e1 (fun ht => ihy my hy Q s (h.1 ht) ι a w hr) (fun hf => ihz mz hz Q s (h.2 hf) ι a w hr)
      · exact h.elim
    · cases hc
  | block id x ih =>
    intro mc hc Q s h ι a w hr
    simp only [cCode, Option.map_eq_some_iff] at hc
    obtain ⟨m, hm, rfl⟩ := hc
    refine wp_block (wp_mono (ih m hm _ s h ι a w hr) ?_)
    rintro e a' w' ⟨s', ι', hq, hr', hE⟩
    cases e with
    | exit id' =>
      simp only [blockK] at hq
      simp only [Exit.inBlock]
      split <;> rename_i hid
      · rw [if_pos hid] at hq; exact ⟨s', ι', hq, hr', hE⟩
      · rw [if_neg hid] at hq; exact ⟨s', ι', hq, hr', hE⟩
    | _ => exact ⟨s', ι', hq, hr', hE⟩
  | loop x ih =>
    intro mc hc Q s h ι a w hr
    simp only [cCode, Option.map_eq_some_iff] at hc
    obtain ⟨m, hm, rfl⟩ := hc
    simp only [mwp, mloop] at h
    obtain ⟨I, μ, h0, hround⟩ := h
    have key : ∀ n (s' : St) (ι' : Nat → Option Ref) (a' : Act) (w' : World), μ s' = n → I s' → Rel N s' ι' a' w' → HExt ι s.H w ι' s'.H w' → InLoop P x (Post N s ι w Q) a' w' := by
      intro n
      induction n using Nat.strongRecOn with
      | _ n ihn =>
        intro s' ι' a' w' hn hI hr' hE
        refine inLoop_of (wp_mono (ih m hm _ s' (hround s' hI) ι' a' w' hr') ?_)
        rintro e a2 w2 ⟨s2, ι2, hq, hr2, hE2⟩
        cases e with
        | normal =>
          obtain ⟨hI2, hlt⟩ := hq
          exact ihn (μ s2) (hn ▸ hlt) s2 ι2 a2 w2 rfl hI2 hr2 (hE.trans hE2)
        | _ => exact ⟨s2, ι2, hq, hr2, hE.trans hE2⟩
    exact wp_of_inLoop (key _ s ι a w rfl h0 hr (HExt.refl _ _ _))
  | exit id =>
    intro mc hc Q s h ι a w hr
    simp only [cCode, Option.some.injEq] at hc; subst hc
    exact wp_exit (Post.refl h hr)
  | ret =>
    intro mc hc Q s h ι a w hr
    simp only [cCode, Option.some.injEq] at hc; subst hc
    exact wp_ret (Post.refl h hr)
  | _ => intro mc hc; simp [cCode] at hc

inductive RV where
  | t (i : Nat)
  | c (i n : Nat) (ag : Bool)

def RV.get (s : St) : RV → Option AV
  | .t i => some (s.τ i)
  | .c i n ag => match s.H.read (s.τ i) n with
    | some cs => packC ag cs
    | none => none

def RV.all (s : St) : List RV → Option (List AV)
  | [] => some []
  | r :: l => match r.get s, RV.all s l with
    | some a, some b => some (a :: b)
    | _, _ => none

def cRV (P : Program) : List ResultVar → Option (List RV)
  | [] => some []
  | .tmp t :: r => (cRV P r).map (.t t :: ·)
  | .cell a t :: r => match cT P t, cRV P r with
    | some (n, ag), some l => some (.c a n ag :: l)
    | _, _ => none

def tupleOf : List AV → AV
  | [a] => a
  | l => .tuple l

def retK (rs : List RV) (R : AV → Heap → Prop) (e : Exit) (s : St) : Prop :=
  match e with
  | .normal | .ret => match RV.all s rs with
    | some l => R (tupleOf l) s.H
    | none => False
  | _ => False

def init (args : List AV) : Nat → AV := fun i => args.getD i (.tuple [])

def resOne (tmps : Array Value) : ResultVar → Sem Value
  | .tmp t => pure (tmps.getD t undef)
  | .cell p t => do loadVar t (← asAddr (tmps.getD p undef))

theorem results_eq (fn : Func) (tmps : Array Value) : results fn tmps = (fn.results.mapM (resOne tmps)) >>= fun vs => pure (if h : vs.size = 1 then vs[0] else .tuple vs) := by
  unfold results
  congr 1

theorem results_rel {P : Program} {N : Nat} {s : St} {ι : Nat → Option Ref} {a : Act} {w : World} (hr : Rel N s ι a w) : ∀ (vs : List ResultVar) (rs : List RV) (l : List AV), cRV P vs = some rs → RV.all s rs = some l →
    ∃ us, (vs.mapM (resOne a.tmps)).run P w = .ok us w ∧ VRelL ι l us
  | [], rs, l, h, hl => by
    simp only [cRV, Option.some.injEq] at h; subst h
    simp only [RV.all, Option.some.injEq] at hl; subst hl
    exact ⟨[], by simp, by simp [VRelL]⟩
  | .tmp t :: vs, rs, l, h, hl => by
    simp only [cRV, Option.map_eq_some_iff] at h
    obtain ⟨rs', h', rfl⟩ := h
    simp only [RV.all, RV.get] at hl
    split at hl
    · rename_i x b hx hb
      simp only [Option.some.injEq] at hx hl; subst hx; subst hl
      obtain ⟨us, hu, hrel⟩ := results_rel hr vs rs' b h' hb
      refine ⟨a.tmps.getD t undef :: us, ?_, by simp only [VRelL]; exact ⟨_, _, rfl, hr.tmps t, hrel⟩⟩
      simp only [List.mapM_cons, resOne, Sem.run_bind, Sem.run_pure, Result.andThen_ok] at hu ⊢
      simp only [resOne, hu, Result.andThen_ok]
    · cases hl
  | .cell p t :: vs, rs, l, h, hl => by
    simp only [cRV] at h
    split at h
    · rename_i n ag rs' hT h'
      simp only [Option.some.injEq] at h; subst h
      simp only [RV.all, RV.get] at hl
      split at hl
      · rename_i x b hx hb
        simp only [Option.some.injEq] at hl; subst hl
        split at hx
        · rename_i cs hcs
          obtain ⟨us, hu, hrel⟩ := results_rel hr vs rs' b h' hb
          have e1 := hr.tmps p
          cases hq : s.τ p with
          | ptr id off =>
            rw [hq] at hcs e1
            simp only [VRel] at e1
            obtain ⟨r0, hr0, hv⟩ := e1
            obtain ⟨r1, ws, hr1, hrel1, hlen, hcell⟩ := hr.heap.read hcs
            rw [hr0] at hr1; injection hr1 with e; subst e
            have hul : ws.length = n := by rw [← hrel1.length, hlen]
            have hL := run_loadVar_of (P := P) (w := w) (t := t) (ag := ag) (us := ws) (by rw [hul]; exact hT) (ad := ⟨r0.row, r0.off + off, none⟩) (fun j u hj => by rw [add_lit]; exact hcell j u hj)
            have hA : (asAddr (a.tmps.getD p undef)).run P w = .ok ⟨r0.row, r0.off + off, none⟩ w := by rw [hv]; rfl
            rcases packC_rel hx hrel1 with ⟨hag, hr2⟩ | ⟨hag, u, hu2, hr2⟩
            · refine ⟨.agg ws.toArray :: us, ?_, by simp only [VRelL]; exact ⟨_, _, rfl, hr2, hrel⟩⟩
              simp only [List.mapM_cons, Sem.run_bind, resOne, hA, Sem.run_pure, Result.andThen_ok, hL.1 hag]
              simp only [hu, Result.andThen_ok]
            · refine ⟨u :: us, ?_, by simp only [VRelL]; exact ⟨_, _, rfl, hr2, hrel⟩⟩
              simp only [List.mapM_cons, Sem.run_bind, resOne, hA, Sem.run_pure, Result.andThen_ok, hL.2 u hag hu2]
              simp only [hu, Result.andThen_ok]
          | _ => rw [hq] at hcs; simp [Heap.read] at hcs
        · cases hx
      · cases hl
    · cases h

/-- a function, by its code -/
theorem acalls {P : Program} {f : FuncId} {fn : Func} {c : Code} {mc : MC} {rs : List RV} {args : List AV} {H : Heap} {R : AV → Heap → Prop}
    (hmx : P.follows .mixedOrders = true) (hf : P.funcs[f]? = some fn) (hb : fn.body = some c) (hc : cCode P fn.ntmps c = some mc) (hrs : cRV P fn.results.toList = some rs) (hn : args.length ≤ fn.ntmps)
    (h : mwp P mc (retK rs R) ⟨init args, H⟩) : ACalls P f args H R := by
  intro ι w us hH hus
  have hlen : args.length = us.size := by rw [hus.length]; simp
  refine calls_of_wp hf hb ?_
  have hrel : Rel fn.ntmps ⟨init args, H⟩ ι { tmps := us ++ Array.replicate (fn.ntmps - us.size) undef, defers := [] } w := by
    refine ⟨rfl, by simp; omega, ?_, hH⟩
    intro i
    simp only [init]
    rw [Array.getD_eq_getD_getElem?]
    by_cases hi : i < us.size
    · have hi' : i < args.length := by omega
      rw [Array.getElem?_append_left hi, List.getD, List.getElem?_eq_getElem hi', Array.getElem?_eq_getElem hi]
      exact ((VRelL.iff _ _).1 hus).2 i _ _ (List.getElem?_eq_getElem hi') (by simp [hi])
    · rw [List.getD, List.getElem?_eq_none (by omega)]
      have : (us ++ Array.replicate (fn.ntmps - us.size) undef)[i]?.getD undef = undef := by
        rw [Array.getElem?_append_right (by omega), Array.getElem?_replicate]
        split <;> rfl
      rw [this]
      exact undef_rel ι
  refine wp_mono (code_sound hmx c mc hc _ _ h ι _ w hrel) ?_
  rintro e a' w' ⟨s', ι', hq, hr', hE⟩
  have fin : (match RV.all s' rs with | some l => R (tupleOf l) s'.H | none => False) → a'.defers = [] ∧ ∃ v, (results fn a'.tmps).run P w' = .ok v w' ∧ ∃ r u H' ι', Ending.returned v = .returned u ∧ R r H' ∧ VRel ι' r u ∧ HRel ι' H' w' ∧ HExt ι H w ι' H' w' := by
    intro hq
    refine ⟨hr'.defers, ?_⟩
    cases hall : RV.all s' rs with
    | none => rw [hall] at hq; exact hq.elim
    | some l =>
      rw [hall] at hq
      obtain ⟨vs, hvs, hrel⟩ := results_rel (P := P) hr' _ rs l hrs hall
      have hm : (fn.results.mapM (resOne a'.tmps)).run P w' = .ok vs.toArray w' := by
        rw [Array.mapM_eq_mapM_toList]
        simp only [Sem.run_map, hvs, Result.andThen_ok]
      have hll := hrel.length
      by_cases h1 : vs.length = 1
      · obtain ⟨v, rfl⟩ := List.length_eq_one_iff.1 h1
        obtain ⟨x, rfl⟩ := List.length_eq_one_iff.1 hll
        simp only [VRelL] at hrel
        obtain ⟨v', r', he, hx, _⟩ := hrel
        injection he with he1 he2; subst he1
        refine ⟨v, ?_, x, v, s'.H, ι', rfl, hq, hx, hr'.heap, hE⟩
        rw [results_eq]
        simp only [Sem.run_bind, hm, Result.andThen_ok]
        simp
      · refine ⟨.tuple vs.toArray, ?_, tupleOf l, .tuple vs.toArray, s'.H, ι', rfl, hq, ?_, hr'.heap, hE⟩
        · rw [results_eq]
          simp only [Sem.run_bind, hm, Result.andThen_ok]
          simp [h1]
        · match l, hll with
          | [], hll => simp only [tupleOf, VRel]; exact ⟨_, rfl, by simpa using hrel⟩
          | [x], hll => simp only [List.length_singleton] at hll; omega
          | x :: y :: r, hll => simp only [tupleOf, VRel]; exact ⟨_, rfl, by simpa using hrel⟩
  cases e with
  | normal => exact fin hq
  | ret => exact fin hq
  | _ => exact hq.elim

end Go.Rx
