/-
  Rx2: package-level tables of whole numbers: what the row says of them, in abstract memory.
-/
import Derived.Test.YtgllponopdljaaaDoorRxQ
import Derived.LaidMore
import Derived.OpenShut
import Derived.Stop.Joined
namespace Go.Rx
open Go.ChangeShapes Go.WideShapes Go.ChangeAt Go.RowKit Go.Joins Go.Deep
set_option linter.unusedVariables false

/-- a package's variable is known: whole numbers, one behind the other -/
def Glob (H : Heap) (g : Nat) (zs : List Int) : Prop := g < 64 ∧ 64 ≤ H.size ∧ H.get g = some ⟨false, ints zs⟩
theorem Glob.mono {H H' : Heap} {g : Nat} {zs : List Int} (h : Glob H g zs) (hl : Le H H') : Glob H' g zs :=
  ⟨h.1, Nat.le_trans h.2.1 hl.size, by rw [hl.get g (by have := h.1; have := h.2.1; omega)]; exact h.2.2⟩

def gfind : List (Nat × List Int) → Nat → Option (List Int)
  | [], _ => none
  | (g, zs) :: r, i => if i = g then some zs else gfind r i
theorem gfind_mem : ∀ {l : List (Nat × List Int)} {g : Nat} {zs : List Int}, gfind l g = some zs → (g, zs) ∈ l
  | [], _, _, h => by simp [gfind] at h
  | (g', zs') :: r, g, zs, h => by
    simp only [gfind] at h
    split at h
    · rename_i e; simp only [Option.some.injEq] at h; subst e; subst h; simp
    · exact List.mem_cons_of_mem _ (gfind_mem h)
def gHeap (l : List (Nat × List Int)) : Heap := ⟨64, fun i => (gfind l i).map fun zs => ⟨false, ints zs⟩, fun _ => none⟩
theorem gHeap_glob {l : List (Nat × List Int)} {g : Nat} {zs : List Int} (hg : g < 64) (h : gfind l g = some zs) : Glob (gHeap l) g zs := ⟨hg, Nat.le_refl _, by simp [gHeap, h]⟩

section
variable {T : Type} {enc : TypeId × Value → T} {P : Program} {W : World}

theorem Start.globs {l : List (Nat × List Int)} (h : ∀ g zs, (g, zs) ∈ l → g < 64 ∧ ∀ i z, zs[i]? = some z → W.cell? ⟨g, i, none⟩ = some (.int .i64 z)) : Start W ι64 (gHeap l) := by
  have hro : ∀ id b, (gHeap l).get id = some b → b.rw = false := by
    intro id b hb
    simp only [gHeap, Option.map_eq_some_iff] at hb
    obtain ⟨zs, _, rfl⟩ := hb
    rfl
  refine ⟨⟨fun i hi => if_neg (by show ¬ i < 64; have : (64 : Nat) ≤ i := hi; omega), ?_, fun id b _ _ _ _ h1 _ h3 => (by rw [hro id b h1] at h3; cases h3), fun _ _ h => (by cases h), fun _ _ _ _ _ _ h => (by cases h), fun g hg => ⟨⟨g, 0, 0⟩, if_pos hg, rfl, rfl⟩⟩, rfl, hro⟩
  intro id b hb
  simp only [gHeap, Option.map_eq_some_iff] at hb
  obtain ⟨zs, hz, rfl⟩ := hb
  obtain ⟨h1, h2⟩ := h id zs (gfind_mem hz)
  refine ⟨⟨id, 0, 0⟩, if_pos h1, ?_⟩
  unfold BlkRel
  intro i a ha
  have ha : (zs.map (AV.int .i64))[i]? = some a := ha
  rw [List.getElem?_map, Option.map_eq_some_iff] at ha
  obtain ⟨z, hz, rfl⟩ := ha
  exact ⟨_, by rw [Nat.zero_add]; exact h2 i z hz, by simp [VRel]⟩

def flatL {H : Type} (F : DataW H → Option (List Int)) (c : Nat) : List (DataW H) → Option (List Int)
  | [] => some []
  | d :: ds => match F d, flatL F c ds with
    | some a, some b => if a.length = c then some (a ++ b) else none
    | _, _ => none
/-- the whole numbers of a datum -/
def flatD (P : Program) {H : Type} : Nat → TypeId → DataW H → Option (List Int)
  | 0, _, _ => none
  | n + 1, t, d => match P.underlying t with
    | some (.int .i64) => match d with
      | .lit (.int .i64 z) => some [z]
      | _ => none
    | some (.array m e) => match d with
      | .agg ds => if ds.length = m ∧ P.cellsOf t = m * P.cellsOf e then flatL (flatD P n e) (P.cellsOf e) ds else none
      | _ => none
    | _ => none

theorem flat_cells {base : Nat} {spare : Nat → Bool} {held : Bool} : ∀ (n : Nat) (t : TypeId) (d : DataW T) (fuel : Nat) (cs : List Value) (ps : List MemPlace) (zs : List Int), DataW.trod enc P W base spare held fuel t cs = some (d, ps) → flatD P n t d = some zs → cs = zs.map (.int .i64)
  | 0, _, _, _, _, _, _, _, h => by simp [flatD] at h
  | n + 1, t, d, fuel, cs, ps, zs, ht, h => by
    simp only [flatD] at h
    split at h
    · rename_i hu
      split at h
      rotate_left
      · cases h
      rename_i z
      obtain ⟨k, e1, e2, _⟩ := DataW.trod_int hu ht
      simp only [Prod.mk.injEq, DataW.lit.injEq, Lit.int.injEq, true_and] at e2
      simp only [Option.some.injEq] at h
      subst h
      rw [e1, ← e2.1]; rfl
    · rename_i m e hu
      split at h
      rotate_left
      · cases h
      rename_i ds
      split at h
      · rename_i hc
        obtain ⟨xs, f, rfl, hx, hlen, hn, hel⟩ := DataW.trod_array hu ht
        simp only [Prod.mk.injEq, DataW.agg.injEq] at hx
        obtain ⟨rfl, _⟩ := hx
        have key : ∀ (k j : Nat) (zs : List Int), j + k = m → flatL (flatD P n e) (P.cellsOf e) ((xs.map (·.1)).drop j) = some zs → cs.drop (j * P.cellsOf e) = zs.map (.int .i64) := by
          intro k
          induction k with
          | zero =>
            intro j zs hj hz
            rw [List.drop_eq_nil_of_le (by rw [List.length_map]; omega)] at hz
            simp only [flatL, Option.some.injEq] at hz
            subst hz
            rw [List.drop_eq_nil_of_le (by rw [hlen, hc.2, show j = m by omega]; exact Nat.le_refl _)]; rfl
          | succ k ih =>
            intro j zs hj hz
            have hjx : j < (xs.map (·.1)).length := by rw [List.length_map]; omega
            rw [List.drop_eq_getElem_cons hjx] at hz
            simp only [flatL] at hz
            split at hz
            · rename_i a b ha hb
              split at hz
              · rename_i hal
                simp only [Option.some.injEq] at hz
                subst hz
                have h1 := ih (j + 1) b (by omega) hb
                have h2 := hel j (by omega)
                have hjx' : j < xs.length := by omega
                rw [List.getElem?_eq_getElem hjx'] at h2
                have h3 := flat_cells n e (xs[j].1) f _ (xs[j].2) a (by rw [h2]) (by simpa using ha)
                rw [List.map_append, ← h1, ← h3, Nat.add_mul, Nat.one_mul, ← List.drop_drop, List.take_append_drop]
              · cases hz
            · cases hz
        have := key m 0 zs (by omega) (by simpa using h)
        simpa using this
      · cases h
    · cases h

def flatVar (P : Program) (x : String × DataW Unit) : Option (Nat × List Int) :=
  match P.globalNamed x.1 with
  | some g => match (P.globals[g]?).map (·.type) with
    | some t => (flatD P 5 t x.2).map (g, ·)
    | none => none
  | none => none
def flatVars (P : Program) : List (String × DataW Unit) → Option (List (Nat × List Int))
  | [] => some []
  | x :: r => match flatVar P x, flatVars P r with
    | some a, some l => some (a :: l)
    | _, _ => none

theorem vars_cells : ∀ {laid : List (String × DataW Unit)} {l : List (Nat × List Int)} {ps : List MemPlace}, flatVars P laid = some l → DataW.LaidVars P W laid ps →
    ∀ g zs, (g, zs) ∈ l → ∀ i z, zs[i]? = some z → W.cell? ⟨g, i, none⟩ = some (.int .i64 z)
  | [], l, _, hf, _ => by
    simp only [flatVars, Option.some.injEq] at hf
    subst hf
    simp
  | (n, d) :: r, l, ps, hf, h => by
    simp only [flatVars] at hf
    split at hf
    · rename_i a l' ha hl'
      simp only [Option.some.injEq] at hf
      subst hf
      obtain ⟨g, t, cs, fuel, p, q, h1, h2, h3, h4, h5, _⟩ := h
      intro g' zs hm i z hz
      rcases List.mem_cons.1 hm with he | hm
      · simp only [flatVar, h1, h2, Option.map_eq_some_iff] at ha
        obtain ⟨zs', hz', rfl⟩ := ha
        simp only [Prod.mk.injEq] at he
        obtain ⟨rfl, rfl⟩ := he
        have hcs := flat_cells 5 t d fuel cs.toList p zs h4 hz'
        have hc := World.var?_cell h1 h3 i
        rw [hc, ← Array.getElem?_toList, hcs, List.getElem?_map, hz]; rfl
      · exact vars_cells hl' h5 g' zs hm i z hz
    · cases hf

/-- the start of a call that finds the listed tables -/
theorem Start.laid {laid : List (String × DataW Unit)} {l : List (Nat × List Int)} (h : laidMetH P laid W) (hno : (laid.all fun x => x.2.handleName?.isNone) = true) (hf : flatVars P laid = some l) (h64 : (l.all fun x => decide (x.1 < 64)) = true) : Start W ι64 (gHeap l) := by
  rw [MakeChecks.laidMetH_plain _ _ _ hno] at h
  obtain ⟨ps, hv, _⟩ := h
  refine Start.globs fun g zs hm => ⟨?_, vars_cells hf hv g zs hm⟩
  have := List.all_eq_true.1 h64 _ hm
  simpa using this

theorem trodVars_stays (hl : laidOutB P = true) {W' : World} {sp : Nat → Bool} : ∀ {ns : List String} {gs : List (DataW T)} {ps : List MemPlace},
    (∀ n ∈ ns, ∀ g t, P.globalNamed n = some g → (P.globals[g]?).map (·.type) = some t → P.readableRec t = true ∧ t < P.types.size) →
    (∀ n g cs, P.globalNamed n = some g → W.var? P n = some cs → W'.var? P n = some cs) →
    DataW.TrodVars enc P W (fun _ => true) ns gs ps → (∀ p ∈ ps, W.sameAt W' p) → (∀ p ∈ ps, sp p.block = true) → DataW.TrodVars enc P W' sp ns gs ps
  | [], gs, ps, _, _, h, _, _ => by
    cases gs <;> simp_all [DataW.TrodVars]
  | n :: ns, gs, ps, hr, hv, h, h1, h2 => by
    cases gs with
    | nil => simp [DataW.TrodVars] at h
    | cons d ds =>
      obtain ⟨g, t, cs, fuel, p, q, k1, k2, k3, k4, k5, rfl⟩ := h
      have hrt := hr n (by simp) g t k1 k2
      have h3 : DataW.Trod enc P W' 0 sp true t (.agg cs) d p := WideElems.Trod_stays hl hrt.1 hrt.2 ⟨fuel, k4⟩ (fun x hx => h1 x (by simp [hx])) (fun x hx => h2 x (by simp [hx]))
      obtain ⟨fuel', k6⟩ := h3
      exact ⟨g, t, cs, fuel', p, q, k1, k2, hv n g cs k1 k3, k6, trodVars_stays hl (fun m hm => hr m (by simp [hm])) hv k5 (fun x hx => h1 x (by simp [hx])) (fun x hx => h2 x (by simp [hx])), rfl⟩

/-- the contract that a row over listed variables asks, from that of the law in abstract memory -/
theorem law_contractV {f : FuncId} {fn : Func} {s : ChangeSpec} {args : Array Value} {ds gs : List (DataW T)} {before : List MemPlace} {tb : TypeId} {fresh handsOn : Bool}
    (hl : laidOutB P = true) (hr : ∀ t ∈ fn.params.toList, P.readableRec t = true ∧ t < P.types.size)
    (hvr : ∀ n ∈ s.vars, ∀ g t, P.globalNamed n = some g → (P.globals[g]?).map (·.type) = some t → P.readableRec t = true ∧ t < P.types.size)
    (hres : fn.resultTypes = #[tb]) (hb : P.underlying tb = some .bool)
    (hW : DataW.Whole enc P fn.params.toList s.vars false W args.toList ds gs before)
    (hfn : s.fn T (ds ++ gs) = { results := [.lit (.bool true)], args := ds, vars := gs })
    {ι : Nat → Option Ref} {H : Heap} (hS : Start W ι H) {avs : List AV} (ha : VRelL ι avs args.toList)
    (hc : ACalls P f avs H fun r _ => r = .bool true) :
    Calls P f args W fun e W' => ∃ v, e = .returned v ∧ s.post enc P fn false fresh handsOn false W args v W' := by
  refine (hc ι W args hS.rel ha).mono fun e W' ⟨r, u, H', ι', he, hr', hv, hrel, hx⟩ => ?_
  subst hr'
  simp only [VRel] at hv
  subst hv
  refine ⟨_, he, ?_⟩
  have hbelow : Below W.heap.size W W' := ⟨hx.os, hx.tape, hx.output, hx.wsize, fun k hk => hx.rows k hk (fun id b r h1 h2 _ => by rw [hS.ro id b h1] at h2; cases h2) (fun id o r h1 _ => by rw [hS.ob] at h1; cases h1)⟩
  have hlt := hW.lt
  have hW' := hW
  obtain ⟨p, q, hA, hV, rfl, hz, hn⟩ := hW
  have hvar : ∀ n g cs, P.globalNamed n = some g → W.var? P n = some cs → W'.var? P n = some cs := by
    intro n g cs hg hcs
    unfold World.var? at hcs ⊢
    simp only [hg, Option.bind_some] at hcs ⊢
    have hlt : g < W.heap.size := by
      rcases Nat.lt_or_ge g W.heap.size with h1 | h1
      · exact h1
      · rw [Array.getElem?_eq_none h1] at hcs; simp at hcs
    rw [hbelow.block g hlt]
    exact hcs
  refine ⟨ds, gs, p ++ q, [], p, q, hW', ?_, ?_, ?_, hbelow.frame _, by simp⟩
  · rw [hfn, hres]
    have : (Value.bool true).resultList #[tb].size = [.bool true] := rfl
    rw [this]
    exact trodAll_cons_mk (shut_bool hb true) trodAll_mk0
  · rw [hfn]
    exact trodAll_stays hl hr hA (fun x hx => hbelow.same (hlt x (by simp [hx]))) (fun x hx => by simpa using hlt x (by simp [hx]))
  · rw [hfn]
    exact trodVars_stays hl hvr hvar hV (fun x hx => hbelow.same (hlt x (by simp [hx]))) (fun x hx => by simpa using hlt x (by simp [hx]))
theorem trodVars_len {sp : Nat → Bool} : ∀ {ns : List String} {gs : List (DataW T)} {ps : List MemPlace}, DataW.TrodVars enc P W sp ns gs ps → gs.length = ns.length
  | [], gs, ps, h => by cases gs <;> simp_all [DataW.TrodVars]
  | n :: ns, [], ps, h => by simp [DataW.TrodVars] at h
  | n :: ns, d :: ds, ps, h => by
    obtain ⟨g, t, cs, fuel, p, q, _, _, _, _, k5, _⟩ := h
    simp [trodVars_len k5]

/-- a variable's type can be read -/
def readableVar (P : Program) (n : String) : Bool :=
  match P.globalNamed n with
  | some g => match (P.globals[g]?).map (·.type) with
    | some t => P.readableRec t && decide (t < P.types.size)
    | none => true
  | none => true
theorem readable_of {n : String} {g : Nat} {t : TypeId} (h : readableVar P n = true) (h1 : P.globalNamed n = some g) (h2 : (P.globals[g]?).map (·.type) = some t) : P.readableRec t = true ∧ t < P.types.size := by
  unfold readableVar at h
  rw [h1] at h
  simp only [h2] at h
  simpa using h
end
end Go.Rx
