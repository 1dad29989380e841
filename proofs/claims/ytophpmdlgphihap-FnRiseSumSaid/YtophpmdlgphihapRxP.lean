/-
  RxP: regions that draw and write, with pairs that no edge orders: what is old and what is new keeps them apart.
-/
import Derived.Test.YtophpmdlgphihapRxZ
namespace Go.Rx
set_option linter.unusedVariables false
set_option linter.unusedSimpArgs false

abbrev Fp := Bool × Option (Nat × Nat)

/-- what is known of the blocks that an operation reads, and makes or changes -/
structure FpOk (base i : Nat) (e : List Nat × List Nat) (a : Fp) : Prop where
  lt : ∀ id ∈ e.1, id < base + (i + 1)
  old : a.1 = true → ∀ id ∈ e.1, id < base
  no : a.2 = none → e.2 = []
  at' : ∀ lo hi, a.2 = some (lo, hi) → ∀ id ∈ e.2, base + lo ≤ id ∧ id < base + hi

structure AccOk (base : Nat) (c : List (List Nat × List Nat)) (a : List Fp) : Prop where
  len : c.length = a.length
  ok : ∀ i e x, c[i]? = some e → a[i]? = some x → FpOk base i e x

def disj : Option (Nat × Nat) → Option (Nat × Nat) → Bool
  | some (l1, h1), some (l2, h2) => Nat.ble h1 l2 || Nat.ble h2 l1
  | _, _ => true
def noT : Option (Nat × Nat) → Bool
  | none => true
  | _ => false
def late (i : Nat) : Option (Nat × Nat) → Bool
  | none => true
  | some (lo, _) => Nat.ble (i + 1) lo
def pairA (acc : List Fp) (q : Nat × Nat) : Bool :=
  match acc[q.1]?, acc[q.2]? with
  | some a, some b => (noT a.2 || (b.1 && disj a.2 b.2)) && (noT b.2 || a.1 && !noT b.2 || late q.1 b.2)
  | _, _ => false

theorem AccOk.snoc {base : Nat} {c : List (List Nat × List Nat)} {a : List Fp} {e : List Nat × List Nat} {x : Fp} (h : AccOk base c a) (he : FpOk base c.length e x) : AccOk base (c ++ [e]) (a ++ [x]) := by
  refine ⟨by simp [h.len], fun i e' x' h1 h2 => ?_⟩
  by_cases hi : i < c.length
  · rw [List.getElem?_append_left hi] at h1
    rw [List.getElem?_append_left (by rw [← h.len]; exact hi)] at h2
    exact h.ok i e' x' h1 h2
  · rw [List.getElem?_append_right (by omega)] at h1
    rw [List.getElem?_append_right (by rw [← h.len]; omega)] at h2
    have h3 : i - c.length = 0 := by
      rcases Nat.eq_zero_or_pos (i - c.length) with h4 | h4
      · exact h4
      · rw [List.getElem?_eq_none (by simp; omega)] at h1; cases h1
    rw [h3] at h1
    rw [← h.len, h3] at h2
    simp only [List.getElem?_cons_zero, Option.some.injEq] at h1 h2
    subst h1; subst h2
    have : i = c.length := by omega
    rw [this]; exact he

theorem AccOk.pairs {base : Nat} {c : List (List Nat × List Nat)} {a : List Fp} (h : AccOk base c a) : ∀ {prs : List (Nat × Nat)}, prs.all (pairA a) = true → pairsOk c prs
  | [], _ => trivial
  | (i, j) :: r, hp => by
    simp only [List.all_cons, Bool.and_eq_true] at hp
    refine ⟨?_, h.pairs hp.2⟩
    have h1 := hp.1
    simp only [pairA] at h1
    split at h1
    · rename_i x y hx hy
      have hi : i < c.length := by rw [h.len]; exact (List.getElem?_eq_some_iff.1 hx).1
      have hj : j < c.length := by rw [h.len]; exact (List.getElem?_eq_some_iff.1 hy).1
      obtain ⟨ei, hei⟩ : ∃ e, c[i]? = some e := ⟨_, List.getElem?_eq_getElem hi⟩
      obtain ⟨ej, hej⟩ : ∃ e, c[j]? = some e := ⟨_, List.getElem?_eq_getElem hj⟩
      rw [hei, hej]
      have oi := h.ok i _ x hei hx
      have oj := h.ok j _ y hej hy
      simp only [Bool.and_eq_true, Bool.or_eq_true] at h1
      refine ⟨fun id hid => ?_, fun id hid => ?_⟩
      · rcases h1.1 with h2 | ⟨h2, h3⟩
        · have : x.2 = none := by cases hx2 : x.2 with
            | none => rfl
            | some q => rw [hx2] at h2; cases h2
          rw [oi.no this] at hid; cases hid
        · intro hm
          cases hx2 : x.2 with
          | none => rw [oi.no hx2] at hid; cases hid
          | some q =>
            obtain ⟨l1, u1⟩ := q
            have b1 := oi.at' l1 u1 hx2 id hid
            rcases List.mem_append.1 hm with hm | hm
            · have := oj.old h2 id hm; omega
            · cases hy2 : y.2 with
              | none => rw [oj.no hy2] at hm; cases hm
              | some q =>
                obtain ⟨l2, u2⟩ := q
                have b2 := oj.at' l2 u2 hy2 id hm
                rw [hx2, hy2] at h3
                simp only [disj, Bool.or_eq_true] at h3
                rcases h3 with h3 | h3 <;> have := Nat.le_of_ble_eq_true h3 <;> omega
      · intro hm
        cases hy2 : y.2 with
        | none => rw [oj.no hy2] at hid; cases hid
        | some q =>
          obtain ⟨l2, u2⟩ := q
          have b2 := oj.at' l2 u2 hy2 id hid
          rw [hy2] at h1
          rcases h1.2 with (h2 | h2) | h2
          · cases h2
          · have := oi.old h2.1 id hm; omega
          · have := Nat.le_of_ble_eq_true h2
            have := oi.lt id hm; omega
    · cases h1

structure GD2 (P : Program) (Qt : FuncId → List AV → Option AV) (base k : Nat) (A : Heap) (X : List Nat) (E : List (Nat × AV)) (S : Sig) (L O : List AV) (acc : List Fp) (prs : List (Nat × Nat)) (l : List MI) (K : St → Prop) : Prop where
  g : ∀ s m c, EnvOk E s.τ → SOk A X S m s.H → m ≤ base + k → (∀ u ∈ L, ∀ id, u.bid = some id → base ≤ id) → (∀ u ∈ O, ∀ id, u.bid = some id → id < base) → AccOk base c acc → c.length = k → dops P Qt base k l s c prs K

section
variable {P : Program} {Qt : FuncId → List AV → Option AV} {A : Heap} {X : List Nat} {E F : List (Nat × AV)} {S S' S0 : Sig} {Q : Exit → St → Prop} {K : St → Prop} {r : List MI} {d base k : Nat} {v w : AV} {x y p : MX} {a b : Int} {L O : List AV} {acc : List Fp} {prs : List (Nat × Nat)}

theorem gc_drw2q {l : List MI} (Qt : FuncId → List AV → Option AV) (hQ : ∀ H, QtOk P Qt H) (h : ∀ base, GD2 P Qt base 0 A X E S [] (S.map (·.v)) [] prs l (Q .normal)) : GC P A X E S (.drw l prs) Q := by
  refine ⟨fun s hf => ?_⟩
  rw [mwp_drw]
  refine ⟨Qt, dopsC_of (fun _ H _ => hQ H) ((h s.H.size).g _ s.H.size [] hf.env ?_ (Nat.le_refl _) (by simp) ?_ ⟨rfl, by simp⟩ rfl)⟩
  · exact hf.ok.same (fun _ _ => rfl) (Nat.le_refl _) (by simp [Heap.ext])
  · intro u hu id hid
    obtain ⟨c, hc, rfl⟩ := List.mem_map.1 hu
    exact (hf.ok.ch c hc).1 id hid
def isSt : MOp → Bool
  | .st .. => true
  | _ => false
/-- no calls; stores only where something is made, too -/
def drw2ok (l : List MI) : Bool := l.all (fun m => !m.op.isCall) && (l.all (fun m => !isSt m.op) || l.any (fun m => allocs m.op))
theorem gc_drw2 {l : List MI} (hc : drw2ok l = true := by with_unfolding_all rfl) (h : ∀ base, GD2 P (fun _ _ => none) base 0 A X E S [] (S.map (·.v)) [] prs l (Q .normal)) : GC P A X E S (.drw l prs) Q :=
  gc_drw2q (fun _ _ => none) (fun H f args r h => by cases h) h
theorem gd2_nil (hp : prs.all (pairA acc) = true) (h : GK A X E S K) : GD2 P Qt base k A X E S L O acc prs [] K :=
  ⟨fun s m c hE hS hm hL hO hc hk => ⟨hc.pairs hp, h.g s ⟨hE, hS.bump hS.mh (Nat.le_refl _)⟩⟩⟩

theorem quiet_foot {op : MOp} (h : (!op.isCall && !writes op && !reads op) = true) (τ : Nat → AV) (nid : Nat) : foot τ op = [] ∧ touch nid τ op = [] := by
  cases op <;> simp [MOp.isCall, writes, reads] at h <;> exact ⟨rfl, rfl⟩
theorem FpOk.nil (base i : Nat) : FpOk base i ([], []) (true, none) := ⟨by simp, by simp, by simp, by simp⟩

theorem gd2_is {op : MOp} (hq : (!op.isCall && !writes op && !reads op) = true) (hs : Stp A X E S op (Is v S')) (hk : GD2 P Qt base (k + 1) A X ((d, v) :: E) S' L O (acc ++ [(true, none)]) prs r K) : GD2 P Qt base k A X E S L O acc prs (⟨some d, none, op⟩ :: r) K := by
  have hp : op.isCall = false := by simp at hq; exact hq.1.1
  refine ⟨fun s m c hE hS hm hL hO hc hkl => ?_⟩
  obtain ⟨v', S'', H', m', ⟨rfl, rfl⟩, h2, h3, h4, h5, h6⟩ := hs.stp s.τ s.H m (base + k) hE hS hm
  simp only [dops, dstep_plain2 hp, h2, (quiet_foot hq s.τ (base + k)).1, (quiet_foot hq s.τ (base + k)).2]
  exact hk.g _ m' _ (look_cons hE d _) h3 (by omega) hL hO (hc.snoc (.nil _ _)) (by simp [hkl])
theorem gd2_new {op : MOp} {N : AV → Sig} (hq : (!op.isCall && !writes op && !reads op) = true) (hs : Stp A X E S op (New N)) (hk : ∀ v, GD2 P Qt base (k + 1) A X ((d, v) :: E) (N v) L O (acc ++ [(true, none)]) prs r K) : GD2 P Qt base k A X E S L O acc prs (⟨some d, none, op⟩ :: r) K := by
  have hp : op.isCall = false := by simp at hq; exact hq.1.1
  refine ⟨fun s m c hE hS hm hL hO hc hkl => ?_⟩
  obtain ⟨v', S'', H', m', rfl, h2, h3, h4, h5, h6⟩ := hs.stp s.τ s.H m (base + k) hE hS hm
  simp only [dops, dstep_plain2 hp, h2, (quiet_foot hq s.τ (base + k)).1, (quiet_foot hq s.τ (base + k)).2]
  exact (hk v').g _ m' _ (look_cons hE d _) h3 (by omega) hL hO (hc.snoc (.nil _ _)) (by simp [hkl])

theorem gd2_call {f : FuncId} {args : List MX} {vs : List AV} (ha : evsE E args = some vs) (hq : Qt f vs = some v) (hk : GD2 P Qt base (k + 1) A X ((d, v) :: E) S L O (acc ++ [(true, none)]) prs r K) : GD2 P Qt base k A X E S L O acc prs (⟨some d, none, .call f args⟩ :: r) K := by
  refine ⟨fun s m c hE hS hm hL hO hc hkl => ?_⟩
  have e : dstep P Qt (base + k) ⟨some d, none, .call f args⟩ s = some (v, s.H) := by
    simp only [dstep, gcheck, mcallee, evs_of hE ha, hq]
  simp only [dops, e]
  exact hk.g _ m _ (look_cons hE d _) hS (by omega) hL hO (hc.snoc (.nil _ _)) (by simp [hkl])
/-- a load of what lay there at the start -/
theorem gd2_ldo {u : AV} {n : Nat} {b : Bool} (hp : evE E p = some u) (hs : Stp A X E S (.ld p n b) (Is v S)) (ho : ∀ id ∈ vid u, ∃ z ∈ O, z.bid = some id) (hk : GD2 P Qt base (k + 1) A X ((d, v) :: E) S L O (acc ++ [(true, none)]) prs r K) : GD2 P Qt base k A X E S L O acc prs (⟨some d, none, .ld p n b⟩ :: r) K := by
  refine ⟨fun s m c hE hS hm hL hO hc hkl => ?_⟩
  obtain ⟨v', S'', H', m', ⟨rfl, rfl⟩, h2, h3, h4, h5, h6⟩ := hs.stp s.τ s.H m (base + k) hE hS hm
  have hd0 : dstep P Qt (base + k) ⟨some d, none, (.ld p n b)⟩ s = mstep (base + k) s.τ s.H (.ld p n b) := dstep_plain2 rfl
  simp only [dops, hd0, h2]
  refine hk.g _ m' _ (look_cons hE d _) h3 (by omega) hL hO (hc.snoc ?_) (by simp [hkl])
  have hf : ∀ id ∈ foot s.τ (.ld p n b), id < base := by
    intro id hid
    simp only [foot, ev_of hE hp] at hid
    obtain ⟨z, hz, hzb⟩ := ho id hid
    exact hO z hz id hzb
  exact ⟨fun id hid => by have := hf id hid; omega, fun _ => hf, fun _ => rfl, by simp⟩
def makes : MOp → Bool
  | .new _ | .box _ => true
  | _ => false
/-- a new cell -/
theorem gd2_np {op : MOp} {N : Nat → Sig} (hop : makes op = true) (hs : Stp A X E S op (NewP N)) (hk : ∀ id, GD2 P Qt base (k + 1) A X ((d, .ptr id 0) :: E) (N id) (.ptr id 0 :: L) O (acc ++ [(true, some (k, k + 1))]) prs r K) : GD2 P Qt base k A X E S L O acc prs (⟨some d, none, op⟩ :: r) K := by
  refine ⟨fun s m c hE hS hm hL hO hc hkl => ?_⟩
  obtain ⟨v', S'', H', m', ⟨id, rfl, rfl⟩, h2, h3, h4, h5, h6⟩ := hs.stp s.τ s.H m (base + k) hE hS hm
  have hic : op.isCall = false := by cases op <;> first | rfl | simp [makes] at hop
  have hd0 : dstep P Qt (base + k) ⟨some d, none, op⟩ s = mstep (base + k) s.τ s.H op := dstep_plain2 hic
  have hid : id = base + k := by
    cases op with
    | new zs => simp only [mstep] at h2; (repeat' split at h2) <;> simp_all
    | box x => simp only [mstep] at h2; (repeat' split at h2) <;> simp_all
    | _ => simp [makes] at hop
  have hft : foot s.τ op = [] ∧ touch (base + k) s.τ op = [base + k] := by
    cases op with
    | new zs => exact ⟨rfl, rfl⟩
    | box x => exact ⟨rfl, rfl⟩
    | _ => simp [makes] at hop
  simp only [dops, hd0, h2, hft.1, hft.2]
  refine (hk id).g _ m' _ (look_cons hE d _) h3 (by omega) ?_ hO (hc.snoc ?_) (by simp [hkl])
  · intro u hu i hi
    rcases List.mem_cons.1 hu with rfl | hu
    · simp only [AV.bid, Option.some.injEq] at hi; omega
    · exact hL u hu i hi
  · refine ⟨by simp, by simp, by simp, ?_⟩
    intro lo hi h7 i hi2
    simp only [Option.some.injEq, Prod.mk.injEq] at h7
    simp only [List.mem_singleton] at hi2
    omega
/-- a store into what has been made -/
theorem gd2_sto {n id o : Nat} (hp : evE E p = some (.ptr id o)) (hs : Stp A X E S (.st p x n) (Is v S')) (hl : .ptr id 0 ∈ L) (hb : ∀ H m, SOk A X S m H → id < m) (hk : GD2 P Qt base (k + 1) A X E S' L O (acc ++ [(false, some (0, k + 1))]) prs r K) : GD2 P Qt base k A X E S L O acc prs (⟨none, none, .st p x n⟩ :: r) K := by
  refine ⟨fun s m c hE hS hm hL hO hc hkl => ?_⟩
  obtain ⟨v', S'', H', m', ⟨rfl, rfl⟩, h2, h3, h4, h5, h6⟩ := hs.stp s.τ s.H m (base + k) hE hS hm
  have hd0 : dstep P Qt (base + k) ⟨none, none, (.st p x n)⟩ s = mstep (base + k) s.τ s.H (.st p x n) := dstep_plain2 rfl
  simp only [dops, hd0, h2]
  have hlt := hb s.H m hS
  have hge := hL _ hl id rfl
  refine hk.g _ m' _ hE h3 (by omega) hL hO (hc.snoc ?_) (by simp [hkl])
  refine ⟨?_, by simp, by simp, ?_⟩
  · intro i hi
    simp only [foot, ev_of hE hp, vid, List.mem_singleton] at hi
    omega
  · intro lo hi h7 i hi2
    simp only [Option.some.injEq, Prod.mk.injEq] at h7
    simp only [touch, ev_of hE hp, vid, List.mem_singleton] at hi2
    omega

theorem vid_elem {v : AV} (i : Nat) : ∀ id ∈ vid (v.elem i), v.bid = some id := by
  intro id hid
  cases v <;> simp [AV.elem, vid] at hid ⊢ <;> simp [AV.bid, hid]

theorem gd2_ld {n i : Nat} {xs : List Int} (hp : evE E p = some (v.elem i)) (hh : Has S v 1 n (ints xs)) (hi : i < n) (ho : v ∈ O) (hk : GD2 P Qt base (k + 1) A X ((d, .int .i64 (nth xs i)) :: E) S L O (acc ++ [(true, none)]) prs r K) : GD2 P Qt base k A X E S L O acc prs (⟨some d, none, .ld p 1 false⟩ :: r) K := by
  refine ⟨fun s m c hE hS hm hL hO hc hkl => ?_⟩
  obtain ⟨v', S'', H', m', ⟨rfl, rfl⟩, h2, h3, h4, h5, h6⟩ := (stp_ld (A := A) (X := X) hp hh hi).stp s.τ s.H m (base + k) hE hS hm
  have hd0 : dstep P Qt (base + k) ⟨some d, none, (.ld p 1 false)⟩ s = mstep (base + k) s.τ s.H (.ld p 1 false) := dstep_plain2 rfl
  simp only [dops, hd0, h2]
  refine hk.g _ m' _ (look_cons hE d _) h3 (by omega) hL hO (hc.snoc ?_) (by simp [hkl])
  have hf : ∀ id ∈ foot s.τ (.ld p 1 false), id < base := by
    intro id hid
    simp only [foot, ev_of hE hp] at hid
    exact hO v ho id (vid_elem i id hid)
  exact ⟨fun id hid => by have := hf id hid; omega, fun _ => hf, fun _ => rfl, by simp⟩

theorem gd2_bsl {n : Nat} {parts : List (Nat × MX)} {xs : List Int} (hp : partsI E 0 parts = some xs) (hn : parts.length = n) (hk : ∀ u, GD2 P Qt base (k + 1) A X ((d, u) :: E) (⟨.rw, u, 1, n, ints xs⟩ :: S) (u :: L) O (acc ++ [(true, some (k, k + 1))]) prs r K) : GD2 P Qt base k A X E S L O acc prs (⟨some d, none, .bsl n 1 [.int .i64 0] parts⟩ :: r) K := by
  refine ⟨fun s m c hE hS hm hL hO hc hkl => ?_⟩
  obtain ⟨v', S'', H', m', rfl, h2, h3, h4, h5, h6⟩ := (stp_bsl (A := A) (X := X) (S := S) hp hn).stp s.τ s.H m (base + k) hE hS hm
  have hd0 : dstep P Qt (base + k) ⟨some d, none, (.bsl n 1 [.int .i64 0] parts)⟩ s = mstep (base + k) s.τ s.H (.bsl n 1 [.int .i64 0] parts) := dstep_plain2 rfl
  simp only [dops, hd0, h2]
  refine (hk v').g _ m' _ (look_cons hE d _) h3 (by omega) ?_ hO (hc.snoc ?_) (by simp [hkl])
  · intro u hu id hid
    rcases List.mem_cons.1 hu with rfl | hu
    · simp only [mstep] at h2
      split at h2
      · simp only [Option.some.injEq, Prod.mk.injEq] at h2
        rw [← h2.1] at hid
        simp only [AV.bid, Option.some.injEq] at hid; omega
      · cases h2
    · exact hL u hu id hid
  · refine ⟨by simp [foot], by simp [foot], by simp, ?_⟩
    intro lo hi h7 id hid
    simp only [Option.some.injEq, Prod.mk.injEq] at h7
    simp only [touch, List.mem_singleton] at hid
    omega

theorem app_bid {nid : Nat} {τ : Nat → AV} {H H' : Heap} {es bytes : Nat} {u : AV} (h : mstep nid τ H (.app x y es bytes) = some (u, H')) : u = x.ev τ ∨ u.bid = some nid := by
  simp only [mstep] at h
  unfold mapp at h
  repeat' split at h
  all_goals first
    | (cases h; done)
    | (simp only [Option.some.injEq, Prod.mk.injEq] at h
       obtain ⟨h1, h2⟩ := h
       first
         | (left; rw [← h1]; assumption)
         | (left; exact h1.symm)
         | (right; rw [← h1]; rfl)
         | (left; rw [← h1]; symm; assumption))

theorem gd2_app {n m' : Nat} {xs ys : List Int} (hx : evE E x = some v) (hy : evE E y = some w) (hs : Sel S ⟨.rw, v, 1, n, ints xs⟩ S0) (hh : Has S w 1 m' (ints ys)) (hl : v ∈ L) (hm2 : n + m' ≤ 1000000000000)
    (hk : ∀ u, GD2 P Qt base (k + 1) A X ((d, u) :: E) (⟨.rw, u, 1, n + m', ints (xs ++ ys)⟩ :: S0) (u :: L) O (acc ++ [(false, some (0, k + 1))]) prs r K) : GD2 P Qt base k A X E S L O acc prs (⟨some d, none, .app x y 1 8⟩ :: r) K := by
  refine ⟨fun s m c hE hS hm hL hO hc hkl => ?_⟩
  obtain ⟨v', S'', H', m'', rfl, h2, h3, h4, h5, h6⟩ := (stp_appI (A := A) (X := X) hx hy hs hh hm2).stp s.τ s.H m (base + k) hE hS hm
  have hd0 : dstep P Qt (base + k) ⟨some d, none, (.app x y 1 8)⟩ s = mstep (base + k) s.τ s.H (.app x y 1 8) := dstep_plain2 rfl
  simp only [dops, hd0, h2]
  have hvb : ∀ id, v.bid = some id → id < m := ((hS.sel hs).ch ⟨.rw, v, 1, n, ints xs⟩ (by simp)).1
  have hwb : ∀ id, w.bid = some id → id < m := by
    have key : ∀ {S : Sig} {w : AV} {es n : Nat} {cs : List AV}, Has S w es n cs → ∃ c ∈ S, c.v = w := by
      intro S w es n cs h
      induction h with
      | ro => exact ⟨_, List.Mem.head _, rfl⟩
      | rw => exact ⟨_, List.Mem.head _, rfl⟩
      | tail h ih => obtain ⟨c, h1, h2⟩ := ih; exact ⟨c, List.Mem.tail _ h1, h2⟩
    obtain ⟨c, hc1, rfl⟩ := key hh
    exact (hS.ch c hc1).1
  have vb : ∀ {z : AV} {id : Nat}, z.isSlice = true → id ∈ vid z → z.bid = some id := by
    intro z id hz hid
    cases z <;> simp [AV.isSlice] at hz <;> simp [vid] at hid
    · simp [AV.bid, hid]
  have hvs : v.isSlice = true := ((hS.sel hs).valsA Has.rw).sl
  have hws : w.isSlice = true := (hS.valsA hh).sl
  refine (hk v').g _ m'' _ (look_cons hE d _) h3 (by omega) ?_ hO (hc.snoc ?_) (by simp [hkl])
  · intro u hu id hid
    rcases List.mem_cons.1 hu with rfl | hu
    · rcases app_bid h2 with h7 | h7
      · rw [h7, ev_of hE hx] at hid
        exact hL v hl id hid
      · rw [h7, Option.some.injEq] at hid; omega
    · exact hL u hu id hid
  · refine ⟨?_, by simp, by simp, ?_⟩
    · intro id hid
      simp only [foot, ev_of hE hx, ev_of hE hy, List.mem_append] at hid
      rcases hid with hid | hid
      · have := hvb id (vb hvs hid); omega
      · have := hwb id (vb hws hid); omega
    · intro lo hi h7 id hid
      simp only [Option.some.injEq, Prod.mk.injEq] at h7
      simp only [touch, ev_of hE hx, List.mem_cons] at hid
      rcases hid with rfl | hid
      · omega
      · have h8 := vb hvs hid
        have := hvb id h8
        have := hL v hl id h8
        omega
end

theorem gq_freeze {P : Program} {H0 : Heap} {Qt : FuncId → List AV → Option AV} {A : Heap} {X : List Nat} {E : List (Nat × AV)} {S S0 : Sig} {v : AV} {l : List MI} {K : St → Prop} {es n : Nat} {cs : List AV} (hs : Sel S ⟨.rw, v, es, n, cs⟩ S0) (h : GQ P Qt H0 A X E (⟨.ro, v, es, n, cs⟩ :: S0) l K) : GQ P Qt H0 A X E S l K :=
  ⟨fun s hf h0 => h.g s ⟨hf.env, (hf.ok.sel hs).freeze⟩ h0⟩

/-- structs and arrays of whole numbers, compared -/
theorem stp_ageq {A : Heap} {X : List Nat} {E : List (Nat × AV)} {S : Sig} {neg : Bool} {n : Nat} {x y : MX} {cs ds : List AV} {b : Bool} (hx : evE E x = some (.agg cs) := by exact rfl) (hy : evE E y = some (.agg ds) := by exact rfl) (hl : Nat.beq cs.length n = true := by exact rfl) (hb : flatEq cs ds = some b := by exact rfl) : Stp A X E S (.ageq neg n x y) (Is (.bool (if neg = true then !b else b)) S) :=
  stp_pure fun τ H m nid hE hS => by
    simp only [mstep, ev_of hE hx, ev_of hE hy]
    rw [if_pos (Nat.eq_of_beq_eq_true hl), hb]; rfl
theorem beq_dec2 {a b c d : Int} : (a == b && c == d) = decide (a = b ∧ c = d) := by
  by_cases h1 : a = b <;> by_cases h2 : c = d <;> simp [h1, h2]
theorem stp_ageq2 {A : Heap} {X : List Nat} {E : List (Nat × AV)} {S : Sig} {k : IntKind} {x y : MX} {a b c d : Int} (hx : evE E x = some (.agg [.int k a, .int k b]) := by exact rfl) (hy : evE E y = some (.agg [.int k c, .int k d]) := by exact rfl) : Stp A X E S (.ageq false 2 x y) (Is (.bool (decide (a = c ∧ b = d))) S) := by
  have h := stp_ageq (A := A) (X := X) (S := S) (neg := false) (n := 2) (b := (a == c && (b == d && true))) hx hy rfl (by simp [flatEq])
  simp only [Bool.and_true, Bool.false_eq_true, if_false, beq_dec2] at h
  exact h
theorem stp_ageq4 {A : Heap} {X : List Nat} {E : List (Nat × AV)} {S : Sig} {k : IntKind} {x y : MX} {a1 a2 a3 a4 b1 b2 b3 b4 : Int} (hx : evE E x = some (.agg [.int k a1, .int k a2, .int k a3, .int k a4]) := by exact rfl) (hy : evE E y = some (.agg [.int k b1, .int k b2, .int k b3, .int k b4]) := by exact rfl) : Stp A X E S (.ageq false 4 x y) (Is (.bool (decide (a1 = b1 ∧ a2 = b2 ∧ a3 = b3 ∧ a4 = b4))) S) := by
  have h := stp_ageq (A := A) (X := X) (S := S) (neg := false) (n := 4) (b := (a1 == b1 && (a2 == b2 && (a3 == b3 && (a4 == b4 && true))))) hx hy rfl (by simp [flatEq])
  have e : (a1 == b1 && (a2 == b2 && (a3 == b3 && (a4 == b4 && true)))) = decide (a1 = b1 ∧ a2 = b2 ∧ a3 = b3 ∧ a4 = b4) := by
    by_cases h1 : a1 = b1 <;> by_cases h2 : a2 = b2 <;> by_cases h3 : a3 = b3 <;> by_cases h4 : a4 = b4 <;> simp [h1, h2, h3, h4]
  simp only [Bool.false_eq_true, if_false, e] at h
  exact h

/-- a cell that lay there at the start -/
theorem stp_lda {A : Heap} {X : List Nat} {E : List (Nat × AV)} {S : Sig} {p : MX} {id o : Nat} {b : Bool} {cs : List AV} {v : AV} (hp : evE E p = some (.ptr id o) := by exact rfl) (hA : A.get id = some ⟨b, cs⟩ := by assumption) (hid : id < A.size := by assumption) (hx : id ∉ X := by simp) (hv : cs[o]? = some v := by exact rfl) : Stp A X E S (.ld p 1 false) (Is v S) :=
  stp_pure fun τ H m nid hE hS => by
    have hg := hS.le.get id hid hx
    rw [hA] at hg
    have hlt := (List.getElem?_eq_some_iff.1 hv).1
    have hve := (List.getElem?_eq_some_iff.1 hv).2
    simp only [mstep, ev_of hE hp, Heap.read, hg]
    rw [if_pos (by omega), List.drop_eq_getElem_cons hlt]
    simp [packC, hve]
theorem stp_st11 {A : Heap} {X : List Nat} {E : List (Nat × AV)} {S S0 : Sig} {p x : MX} {k : IntKind} {a : Int} {id es n : Nat} {c1 : AV} (hp : evE E p = some (.ptr id 0) := by exact rfl) (hx : evE E x = some (.int k a) := by exact rfl) (hs : Sel S ⟨.cell, .ptr id 0, es, n, [c1]⟩ S0 := by first | exact Sel.head | exact Sel.tail Sel.head | exact Sel.tail (Sel.tail Sel.head) | exact Sel.tail (Sel.tail (Sel.tail Sel.head)) | exact Sel.tail (Sel.tail (Sel.tail (Sel.tail Sel.head))) | exact Sel.tail (Sel.tail (Sel.tail (Sel.tail (Sel.tail Sel.head)))) | exact Sel.tail (Sel.tail (Sel.tail (Sel.tail (Sel.tail (Sel.tail Sel.head))))) | exact Sel.tail (Sel.tail (Sel.tail (Sel.tail (Sel.tail (Sel.tail (Sel.tail Sel.head))))))) :
    Stp A X E S (.st p x 1) (Is .any (⟨.cell, .ptr id 0, es, n, [.int k a]⟩ :: S0)) :=
  stp_stc hp hx hs rfl rfl (by simp)
theorem SOk.cellAt {A : Heap} {X : List Nat} {S S0 : Sig} {m : Nat} {H : Heap} {id es n : Nat} {cs : List AV} (h : SOk A X S m H) (hs : Sel S ⟨.cell, .ptr id 0, es, n, cs⟩ S0) : H.get id = some ⟨true, cs⟩ ∧ id < H.size := by
  have hc := (h.sel hs).ch ⟨.cell, .ptr id 0, es, n, cs⟩ (by simp)
  obtain ⟨h0, id', h1, h3, h2⟩ := hc
  simp only [AV.ptr.injEq, and_true] at h1; subst h1
  exact ⟨h2, Nat.lt_of_lt_of_le (h0 id rfl) h.mh⟩

theorem stp_bld2 {A : Heap} {X : List Nat} {E : List (Nat × AV)} {S : Sig} {x y : MX} {v w z1 z2 : AV} (hx : evE E x = some v := by exact rfl) (hy : evE E y = some w := by exact rfl) (hv : v.cells = [v] := by exact rfl) (hw : w.cells = [w] := by exact rfl) (hv1 : v.one = true := by exact rfl) (hw1 : w.one = true := by exact rfl) : Stp A X E S (.bld [z1, z2] [(0, 1, x), (1, 1, y)]) (Is (.agg [v, w]) S) :=
  stp_bld (l := [(0, 1, v), (1, 1, w)]) (by simp only [evP, hx, hy]) (by simp [fillL, hv, hw, hv1, hw1])
theorem stp_bld1 {A : Heap} {X : List Nat} {E : List (Nat × AV)} {S : Sig} {x1 : MX} {v1 z1 : AV} (h1 : evE E x1 = some v1 := by exact rfl) (c1 : v1.cells = [v1] := by exact rfl) (o1 : v1.one = true := by exact rfl) : Stp A X E S (.bld [z1] [(0, 1, x1)]) (Is (.agg [v1]) S) :=
  stp_bld (l := [(0, 1, v1)]) (by simp only [evP, h1]) (by simp [fillL, c1, o1])
theorem stp_bld0 {A : Heap} {X : List Nat} {E : List (Nat × AV)} {S : Sig} {zs : List AV} : Stp A X E S (.bld zs []) (Is (.agg zs) S) :=
  stp_bld (l := []) (by simp only [evP]) (by simp [fillL])
theorem stp_bld3 {A : Heap} {X : List Nat} {E : List (Nat × AV)} {S : Sig} {x1 x2 x3 : MX} {v1 v2 v3 z1 z2 z3 : AV} (h1 : evE E x1 = some v1 := by exact rfl) (h2 : evE E x2 = some v2 := by exact rfl) (h3 : evE E x3 = some v3 := by exact rfl)
    (c1 : v1.cells = [v1] := by exact rfl) (c2 : v2.cells = [v2] := by exact rfl) (c3 : v3.cells = [v3] := by exact rfl) (o1 : v1.one = true := by exact rfl) (o2 : v2.one = true := by exact rfl) (o3 : v3.one = true := by exact rfl) : Stp A X E S (.bld [z1, z2, z3] [(0, 1, x1), (1, 1, x2), (2, 1, x3)]) (Is (.agg [v1, v2, v3]) S) :=
  stp_bld (l := [(0, 1, v1), (1, 1, v2), (2, 1, v3)]) (by simp only [evP, h1, h2, h3]) (by simp [fillL, c1, c2, c3, o1, o2, o3])
theorem stp_bld4 {A : Heap} {X : List Nat} {E : List (Nat × AV)} {S : Sig} {x1 x2 x3 x4 : MX} {v1 v2 v3 v4 z1 z2 z3 z4 : AV} (h1 : evE E x1 = some v1 := by exact rfl) (h2 : evE E x2 = some v2 := by exact rfl) (h3 : evE E x3 = some v3 := by exact rfl) (h4 : evE E x4 = some v4 := by exact rfl)
    (c1 : v1.cells = [v1] := by exact rfl) (c2 : v2.cells = [v2] := by exact rfl) (c3 : v3.cells = [v3] := by exact rfl) (c4 : v4.cells = [v4] := by exact rfl) (o1 : v1.one = true := by exact rfl) (o2 : v2.one = true := by exact rfl) (o3 : v3.one = true := by exact rfl) (o4 : v4.one = true := by exact rfl) : Stp A X E S (.bld [z1, z2, z3, z4] [(0, 1, x1), (1, 1, x2), (2, 1, x3), (3, 1, x4)]) (Is (.agg [v1, v2, v3, v4]) S) :=
  stp_bld (l := [(0, 1, v1), (1, 1, v2), (2, 1, v3), (3, 1, v4)]) (by simp only [evP, h1, h2, h3, h4]) (by simp [fillL, c1, c2, c3, c4, o1, o2, o3, o4])
theorem stp_ldag {A : Heap} {X : List Nat} {E : List (Nat × AV)} {S S0 : Sig} {p : MX} {id es n j : Nat} {cs : List AV} (hp : evE E p = some (.ptr id 0) := by exact rfl) (hs : Sel S ⟨.cell, .ptr id 0, es, n, cs⟩ S0 := by first | exact Sel.head | exact Sel.tail Sel.head | exact Sel.tail (Sel.tail Sel.head) | exact Sel.tail (Sel.tail (Sel.tail Sel.head)) | exact Sel.tail (Sel.tail (Sel.tail (Sel.tail Sel.head))) | exact Sel.tail (Sel.tail (Sel.tail (Sel.tail (Sel.tail Sel.head)))) | exact Sel.tail (Sel.tail (Sel.tail (Sel.tail (Sel.tail (Sel.tail Sel.head))))) | exact Sel.tail (Sel.tail (Sel.tail (Sel.tail (Sel.tail (Sel.tail (Sel.tail Sel.head))))))) (hj : Nat.beq cs.length j = true := by exact rfl) : Stp A X E S (.ld p j true) (Is (.agg cs) S) := by
  have hj' := Nat.eq_of_beq_eq_true hj
  subst hj'
  refine stp_ldc hp hs (Nat.ble_eq_true_of_le (by omega)) ?_
  rw [List.drop_zero, List.take_length]
  cases cs with
  | nil => rfl
  | cons a l => cases l <;> rfl
theorem stp_boxag {A : Heap} {X : List Nat} {E : List (Nat × AV)} {S : Sig} {x : MX} {cs : List AV} (hx : evE E x = some (.agg cs)) (ho : cs.all AV.one = true) : Stp A X E S (.box x) (NewP fun id => ⟨.cell, .ptr id 0, cs.length, 1, cs⟩ :: S) := stp_box hx rfl ho
end Go.Rx
