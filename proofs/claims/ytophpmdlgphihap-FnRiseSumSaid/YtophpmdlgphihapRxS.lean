/-
  RxS: ranges over functions, over symbolic states.
-/
import Derived.Test.YtophpmdlgphihapRxP
namespace Go.Rx
set_option linter.unusedVariables false
set_option linter.unusedSimpArgs false

section
variable {P : Program} {A : Heap} {X : List Nat} {E : List (Nat × AV)} {S S' S0 : Sig} {Q : Exit → St → Prop} {K : St → Prop} {r : List MI} {d : Nat} {v w : AV}

/-- the same memory with other loops -/
abbrev Heap.obs (A : Heap) (ob : Nat → Option OB) : Heap := ⟨A.size, A.get, ob⟩

theorem SOk.obs {m m' n : Nat} {H : Heap} (h : SOk A X S m H) (ob : Nat → Option OB) (hm : m ≤ m') (hn : m' ≤ n) : SOk (A.obs ob) X S m' ⟨n, H.get, ob⟩ := by
  have ham := h.am
  have hmh := h.mh
  refine ⟨⟨by show A.size ≤ n; omega, fun id hi hx => h.le.get id hi hx, rfl⟩, Nat.le_trans ham hm, hn, fun c hc => ?_, h.ap⟩
  exact (h.ch c hc).mono hm fun _ _ => rfl

theorem HasCode.gos {f : FuncId} {mc : MC} {rs : List RV} {N : Nat} (h : HasCode P f mc rs N) {args : List AV} {H : Heap} {R : AV → Heap → Prop} (hS : SOk A X S H.size H) (hn : args.length ≤ N) (hw : GC P A X (argsE 0 args) S mc (retK rs R)) : ACalls P f args H R := by
  refine h.calls hn (hw.g _ ⟨fun i v hv => ?_, hS⟩)
  have := (argsE_init args 0 i v hv).2
  simpa using this

/-- what slots hold, and the parameters laid on top -/
def setE : List (Nat × AV) → List Nat → List AV → List (Nat × AV)
  | E, p :: ps, x :: xs => setE ((p, x) :: E) ps xs
  | E, _, _ => E

theorem setE_ok : ∀ (ps : List Nat) (xs : List AV) (E : List (Nat × AV)) (τ : Nat → AV), (∀ i v, look E i = some v → τ i = v) → ∀ i v, look (setE E ps xs) i = some v → setp τ ps xs i = v
  | [], _, E, τ, h => h
  | _ :: _, [], E, τ, h => h
  | p :: ps, x :: xs, E, τ, h => setE_ok ps xs ((p, x) :: E) (upd τ p x) (look_cons h p x)

/-- a yield -/
theorem go_yield {id : Nat} {fv : MX} {args : List MX} {xs : List AV} {S2 : Sig} (hv : evE E fv = some (.yld id)) (ha : evsE E args = some xs)
    (h : ∀ H, SOk A X S H.size H → AYield P id xs H fun t H' => t = true ∧ SOk A X S2 H'.size H') (hk : GO P A X ((d, .bool true) :: E) S2 r K) : GO P A X E S (⟨some d, none, .callv fv args⟩ :: r) K := by
  refine ⟨fun s hf => ?_⟩
  rw [mops_cons]
  simp only [mone, mexec, ev_of hf.env hv]
  have := h s.H hf.ok
  rw [← evs_of hf.env ha] at this
  refine ⟨_, this, ?_⟩
  rintro b H' ⟨rfl, hS⟩
  exact hk.g _ ⟨look_cons hf.env d _, hS⟩

/-- a range over a function that each round goes through -/
theorem gc_rfunc {g : MX} {ps : List Nat} {a b : MC} {f : FuncId} {caps : List AV} (Yv : List AV → Sig → Sig → Prop) (T0 Tn : Sig)
    (hg : evE E g = some (.func f caps)) (hc : Callable P f) (hS : Sub S T0)
    (hit : ∀ (A' : Heap) (id : Nat) (H : Heap), (∀ xs S1 S2, Yv xs S1 S2 → ∀ H', SOk A' X S1 H'.size H' → AYield P id xs H' fun t H'' => t = true ∧ SOk A' X S2 H''.size H'') → SOk A' X T0 H.size H → ACalls P f (.yld id :: caps) H fun _ H' => SOk A' X Tn H'.size H')
    (hb : ∀ xs S1 S2, Yv xs S1 S2 → xs.length = ps.length ∧ ∀ (ob1 ob2 : Nat → Option OB) (Q1 Q2 : Exit → St → Prop), (∀ E' S', GC P (A.obs ob2) X E' S' b Q2 → GK (A.obs ob1) X E' S' (Q1 .normal)) → (∀ E', GK (A.obs ob2) X E' S2 (Q2 .normal)) → GC P (A.obs ob1) X (setE E ps xs) S1 a Q1)
    (hk : GK A X E Tn (Q .normal)) : GC P A X E S (.rfunc g ps a b) Q := by
  refine ⟨fun s hf => ?_⟩
  simp only [mwp, mrfunc, ev_of hf.env hg]
  refine ⟨hc, fun o ho hnone hround => ?_⟩
  obtain ⟨id, hid⟩ : ∃ id, id = s.H.size := ⟨_, rfl⟩
  rw [← hid] at hround hnone ⊢
  obtain ⟨ob1, hob1⟩ : ∃ ob1 : Nat → Option OB, ob1 = fun i => if i = id then some (lst o .ready none) else A.ob i := ⟨_, rfl⟩
  obtain ⟨ob2, hob2⟩ : ∃ ob2 : Nat → Option OB, ob2 = fun i => if i = id then some (lst o .busy none) else A.ob i := ⟨_, rfl⟩
  have e1 : ob1 id = some (lst o .ready none) := by rw [hob1]; simp
  have e2 : ob2 id = some (lst o .busy none) := by rw [hob2]; simp
  have e12 : (fun i => if i = id then some (lst o .busy none) else ob1 i) = ob2 := by
    rw [hob1, hob2]; funext i; by_cases h : i = id <;> simp [h]
  have e21 : (fun i => if i = id then some (lst o .ready none) else ob2 i) = ob1 := by
    rw [hob1, hob2]; funext i; by_cases h : i = id <;> simp [h]
  refine ⟨fun _ H' => SOk (A.obs ob1) X Tn H'.size H', hit (A.obs ob1) id _ ?_ ?_, ?_⟩
  · intro xs S1 S2 hY H' hH'
    obtain ⟨hlen, hbody⟩ := hb xs S1 S2 hY
    have hHob : H'.ob = ob1 := hH'.le.ob
    refine hround xs H' _ hlen (by rw [hHob]; exact e1) ?_
    refine (hbody ob1 ob2 _ (roundK id o fun t H'' => t = true ∧ SOk (A.obs ob1) X S2 H''.size H'') ?_ ?_).g ⟨setp s.τ ps xs, H'⟩ ⟨setE_ok ps xs E s.τ hf.env, hH'⟩
    · intro E' S' hgc
      refine ⟨fun s' hf' => ?_⟩
      have h1 : s'.H.ob = ob1 := hf'.ok.le.ob
      refine ⟨by rw [h1]; exact e1, hgc.g _ ⟨hf'.env, ?_⟩⟩
      have h2 := hf'.ok.obs ob2 (Nat.le_refl _) hf'.ok.mh
      have h3 : s'.H.seto id (some (lst o .busy none)) = ⟨s'.H.size, s'.H.get, ob2⟩ := by simp only [Heap.seto, h1, e12]
      rw [h3]; exact h2
    · intro E'
      refine ⟨fun s' hf' => ?_⟩
      have h1 : s'.H.ob = ob2 := hf'.ok.le.ob
      refine ⟨by rw [h1]; exact e2, rfl, ?_⟩
      have h2 := hf'.ok.obs ob1 (Nat.le_refl _) hf'.ok.mh
      have h3 : s'.H.seto id (some (lst o .ready none)) = ⟨s'.H.size, s'.H.get, ob1⟩ := by simp only [Heap.seto, h1, e21]
      rw [h3]; exact h2
  · have h0 := (hf.ok.sub hS).obs ob1 (Nat.le_succ _) (Nat.le_refl _)
    have h3 : s.H.newo (lst o .ready none) = ⟨s.H.size + 1, s.H.get, ob1⟩ := by
      simp only [Heap.newo, hob1, hf.ok.le.ob, hid]
    rw [h3]; exact h0
  · intro r' H' hH'
    have h1 : H'.ob = ob1 := hH'.le.ob
    refine ⟨.ready, none, by rw [h1]; exact e1, by simp, ?_⟩
    refine hk.g _ ⟨hf.env, ?_⟩
    have h2 := hH'.obs A.ob (Nat.le_refl _) hH'.mh
    have h3 : H'.seto id none = ⟨H'.size, H'.get, A.ob⟩ := by
      have hAob : A.ob id = none := by rw [← hf.ok.le.ob]; exact hnone
      simp only [Heap.seto, h1, hob1]
      congr 1
      funext i; by_cases h : i = id
      · subst h; simp [hAob]
      · simp [h]
    rw [h3]; exact h2
end
/-- lengths, by short names: they stand in each step's text -/
theorem llc {α : Type _} {a : α} {l : List α} : (a :: l).length = l.length + 1 := rfl
theorem lln {α : Type _} : ([] : List α).length = 0 := rfl
theorem lna {α : Type _} {l : List α} : [] ++ l = l := rfl
theorem lza {n : Nat} : 0 + n = n := Nat.zero_add n
theorem Sel.auto {S S0 : Sig} {c : Ch} (h : Sel S c S0 := by (first | exact Sel.head | exact Sel.tail Sel.head | exact Sel.tail (Sel.tail Sel.head) | exact Sel.tail (Sel.tail (Sel.tail Sel.head)) | exact Sel.tail (Sel.tail (Sel.tail (Sel.tail Sel.head))) | exact Sel.tail (Sel.tail (Sel.tail (Sel.tail (Sel.tail Sel.head)))) | exact Sel.tail (Sel.tail (Sel.tail (Sel.tail (Sel.tail (Sel.tail Sel.head))))) | exact Sel.tail (Sel.tail (Sel.tail (Sel.tail (Sel.tail (Sel.tail (Sel.tail Sel.head)))))) | exact Sel.tail (Sel.tail (Sel.tail (Sel.tail (Sel.tail (Sel.tail (Sel.tail (Sel.tail Sel.head))))))) | exact Sel.tail (Sel.tail (Sel.tail (Sel.tail (Sel.tail (Sel.tail (Sel.tail (Sel.tail (Sel.tail Sel.head)))))))))) : Sel S c S0 := h
theorem Has.auto {S : Sig} {v : AV} {es n : Nat} {cs : List AV} (h : Has S v es n cs := by (first | exact Has.ro | exact Has.rw | exact Has.tail Has.ro | exact Has.tail Has.rw | exact Has.tail (Has.tail Has.ro) | exact Has.tail (Has.tail Has.rw) | exact Has.tail (Has.tail (Has.tail Has.ro)) | exact Has.tail (Has.tail (Has.tail Has.rw)) | exact Has.tail (Has.tail (Has.tail (Has.tail Has.ro))) | exact Has.tail (Has.tail (Has.tail (Has.tail Has.rw))) | exact Has.tail (Has.tail (Has.tail (Has.tail (Has.tail Has.ro)))) | exact Has.tail (Has.tail (Has.tail (Has.tail (Has.tail Has.rw)))) | exact Has.tail (Has.tail (Has.tail (Has.tail (Has.tail (Has.tail Has.ro))))) | exact Has.tail (Has.tail (Has.tail (Has.tail (Has.tail (Has.tail Has.rw))))) | exact Has.tail (Has.tail (Has.tail (Has.tail (Has.tail (Has.tail (Has.tail Has.ro)))))) | exact Has.tail (Has.tail (Has.tail (Has.tail (Has.tail (Has.tail (Has.tail Has.rw)))))) | exact Has.tail (Has.tail (Has.tail (Has.tail (Has.tail (Has.tail (Has.tail (Has.tail Has.ro))))))) | exact Has.tail (Has.tail (Has.tail (Has.tail (Has.tail (Has.tail (Has.tail (Has.tail Has.rw))))))) | exact Has.tail (Has.tail (Has.tail (Has.tail (Has.tail (Has.tail (Has.tail (Has.tail (Has.tail Has.ro)))))))) | exact Has.tail (Has.tail (Has.tail (Has.tail (Has.tail (Has.tail (Has.tail (Has.tail (Has.tail Has.rw)))))))))) : Has S v es n cs := h
theorem Sub.auto {S S' : Sig} (h : Sub S S' := by ((repeat (refine Sub.cons (by first | exact Sel.head | exact Sel.tail Sel.head | exact Sel.tail (Sel.tail Sel.head) | exact Sel.tail (Sel.tail (Sel.tail Sel.head)) | exact Sel.tail (Sel.tail (Sel.tail (Sel.tail Sel.head))) | exact Sel.tail (Sel.tail (Sel.tail (Sel.tail (Sel.tail Sel.head)))) | exact Sel.tail (Sel.tail (Sel.tail (Sel.tail (Sel.tail (Sel.tail Sel.head))))) | exact Sel.tail (Sel.tail (Sel.tail (Sel.tail (Sel.tail (Sel.tail (Sel.tail Sel.head)))))) | exact Sel.tail (Sel.tail (Sel.tail (Sel.tail (Sel.tail (Sel.tail (Sel.tail (Sel.tail Sel.head))))))) | exact Sel.tail (Sel.tail (Sel.tail (Sel.tail (Sel.tail (Sel.tail (Sel.tail (Sel.tail (Sel.tail Sel.head))))))))) ?_)); exact Sub.nil)) : Sub S S' := h
theorem SubF.auto {S S' : Sig} (h : SubF S S' := by ((repeat (first | refine SubF.cons (by (first | exact Sel.head | exact Sel.tail Sel.head | exact Sel.tail (Sel.tail Sel.head) | exact Sel.tail (Sel.tail (Sel.tail Sel.head)) | exact Sel.tail (Sel.tail (Sel.tail (Sel.tail Sel.head))) | exact Sel.tail (Sel.tail (Sel.tail (Sel.tail (Sel.tail Sel.head)))) | exact Sel.tail (Sel.tail (Sel.tail (Sel.tail (Sel.tail (Sel.tail Sel.head))))))) ?_ | refine SubF.frz (by (first | exact Sel.head | exact Sel.tail Sel.head | exact Sel.tail (Sel.tail Sel.head) | exact Sel.tail (Sel.tail (Sel.tail Sel.head)) | exact Sel.tail (Sel.tail (Sel.tail (Sel.tail Sel.head))) | exact Sel.tail (Sel.tail (Sel.tail (Sel.tail (Sel.tail Sel.head)))) | exact Sel.tail (Sel.tail (Sel.tail (Sel.tail (Sel.tail (Sel.tail Sel.head))))))) ?_)); exact SubF.nil)) : SubF S S' := h
theorem Mem.auto {v : AV} {L : List AV} (h : v ∈ L := by ((repeat (first | exact List.Mem.head _ | apply List.Mem.tail)))) : v ∈ L := h

theorem stp_min4 {A : Heap} {X : List Nat} {E : List (Nat × AV)} {S : Sig} {k : IntKind} {x y z t : MX} {a b c d : Int} (hx : evE E x = some (.int k a) := by exact rfl) (hy : evE E y = some (.int k b) := by exact rfl) (hz : evE E z = some (.int k c) := by exact rfl) (ht : evE E t = some (.int k d) := by exact rfl) : Stp A X E S (.mnmx false x [y, z, t]) (Is (.int k (min (min (min a b) c) d)) S) :=
  stp_pure fun τ H m nid hE hS => by
    simp only [mstep, ev_of hE hx, List.map_cons, List.map_nil, ev_of hE hy, ev_of hE hz, ev_of hE ht, mfold, if_true, Option.map_some, Bool.false_eq_true, if_false]
    rw [show (if b < a then b else a) = min a b by omega, show (if c < min a b then c else min a b) = min (min a b) c by omega, show (if d < min (min a b) c then d else min (min a b) c) = min (min (min a b) c) d by omega]
theorem stp_max4 {A : Heap} {X : List Nat} {E : List (Nat × AV)} {S : Sig} {k : IntKind} {x y z t : MX} {a b c d : Int} (hx : evE E x = some (.int k a) := by exact rfl) (hy : evE E y = some (.int k b) := by exact rfl) (hz : evE E z = some (.int k c) := by exact rfl) (ht : evE E t = some (.int k d) := by exact rfl) : Stp A X E S (.mnmx true x [y, z, t]) (Is (.int k (max (max (max a b) c) d)) S) :=
  stp_pure fun τ H m nid hE hS => by
    simp only [mstep, ev_of hE hx, List.map_cons, List.map_nil, ev_of hE hy, ev_of hE hz, ev_of hE ht, mfold, if_true, Option.map_some, Bool.false_eq_true, if_false]
    rw [show (if b > a then b else a) = max a b by omega, show (if c > max a b then c else max a b) = max (max a b) c by omega, show (if d > max (max a b) c then d else max (max a b) c) = max (max (max a b) c) d by omega]

/-- a struct is put into a block of one's own that it fills -/
theorem stp_stag {A : Heap} {X : List Nat} {E : List (Nat × AV)} {S S0 : Sig} {p x : MX} {id es n j : Nat} {cs ds : List AV} (hp : evE E p = some (.ptr id 0) := by exact rfl) (hx : evE E x = some (.agg ds) := by exact rfl) (hs : Sel S ⟨.cell, .ptr id 0, es, n, cs⟩ S0 := by exact Sel.auto) (hj : Nat.beq ds.length j = true := by exact rfl) (hl : Nat.beq cs.length j = true := by exact rfl) (hone : ds.all AV.one = true := by exact rfl) :
    Stp A X E S (.st p x j) (Is .any (⟨.cell, .ptr id 0, es, n, ds⟩ :: S0)) := by
  have h1 := Nat.eq_of_beq_eq_true hj
  have h2 := Nat.eq_of_beq_eq_true hl
  have h := stp_stc (A := A) (X := X) (p := p) (x := x) (o := 0) hp hx hs (j := j) h1 hone (by omega)
  have e : cs.drop (0 + j) = [] := by apply List.drop_eq_nil_of_le; omega
  rw [e] at h
  simpa [AV.cells] using h

/-- one struct of a slice -/
theorem stp_ldn {A : Heap} {X : List Nat} {E : List (Nat × AV)} {S : Sig} {p : MX} {v w : AV} {es n i : Nat} {ag : Bool} {cs ds : List AV} (hp : evE E p = some (v.elem i)) (hh : Has S v es n cs) (hi : i < n) (hd : (cs.drop (i * es)).take es = ds) (hw : packC ag ds = some w) : Stp A X E S (.ld p es ag) (Is w S) :=
  stp_pure fun τ H m nid hE hS => by
    simp only [mstep, ev_of hE hp, (hS.valsA hh).elem hi, hd, hw, Option.map_some]

/-- a slice of one struct -/
theorem stp_bsl1 {A : Heap} {X : List Nat} {E : List (Nat × AV)} {S : Sig} {x : MX} {es : Nat} {z ds : List AV} (hx : evE E x = some (.agg ds) := by exact rfl) (hd : Nat.beq ds.length es = true := by exact rfl) (hz : Nat.beq z.length es = true := by exact rfl) (h0 : Nat.ble 1 es = true := by exact rfl) (ho : ds.all AV.one = true := by exact rfl) :
    Stp A X E S (.bsl 1 es z [(0, x)]) (New fun v => ⟨.rw, v, es, 1, ds⟩ :: S) := by
  have h1 := Nat.eq_of_beq_eq_true hd
  have h2 := Nat.eq_of_beq_eq_true hz
  have h3 := Nat.le_of_ble_eq_true h0
  refine ⟨?_⟩
  intro τ H m nid hE hS hm
  have hs := Heap.lt_new H nid (some ⟨true, ds⟩)
  refine ⟨.slice nid 0 1 none es, _, H.new nid (some ⟨true, ds⟩), nid + 1, rfl, ?_, ?_, by omega, Nat.le_refl _, Heap.size_le_new _ _ _⟩
  · simp only [mstep, List.map_cons, List.map_nil, ev_of hE hx]
    have e : fillL (zrep z (1 * es)) [(0 * es, es, AV.agg ds)] = some ds := by
      have hz' : (zrep z (1 * es)).length = es := by simp [zrep]
      rw [Nat.one_mul] at hz' ⊢
      simp only [fillL, AV.cells, Nat.zero_mul, h1]
      simp [ho, hz']
    rw [e]
  · refine hS.add ?_ (by omega) hs ⟨?_, ?_, .inr ⟨nid, rfl, .inl (by have := hS.am; omega), by simp [Heap.get_new]⟩⟩ ?_
    · intro id hid; rw [Heap.get_new, if_neg (by omega)]
    · intro k hk; simp only [AV.bid, Option.some.injEq] at hk; omega
    · simp [h1]
    · intro k hk; simp only [AV.bid, Option.some.injEq] at hk; omega

/-- the result lies in a block -/
theorem gk_retc {A : Heap} {X : List Nat} {E : List (Nat × AV)} {S S0 : Sig} {i n m es id : Nat} {ag : Bool} {cs : List AV} {v : AV} {R : AV → Heap → Prop} (hl : look E i = some (.ptr id 0)) (hs : Sel S ⟨.cell, .ptr id 0, es, m, cs⟩ S0) (hn : Nat.ble n cs.length = true) (hv : packC ag (cs.take n) = some v) (h : ∀ H, SOk A X S H.size H → R v H) : GK A X E S (retK [.c i n ag] R .ret) := by
  refine ⟨fun s hf => ?_⟩
  have hc := (hf.ok.cellAt hs).1
  have e : RV.all s [.c i n ag] = some [v] := by
    simp only [RV.all, RV.get, hf.env _ _ hl, Heap.read, hc]
    rw [if_pos (by have := Nat.le_of_ble_eq_true hn; omega)]
    simp only [List.drop_zero, hv]
  simp only [retK, e]
  exact h s.H hf.ok


theorem stp_shl1i {A : Heap} {X : List Nat} {E : List (Nat × AV)} {S : Sig} {x y : MX} {i : Nat} {k : IntKind} (hx : evE E x = some (.int .i64 1) := by exact rfl) (hy : evE E y = some (.int k (i : Int)) := by exact rfl) (hi : i ≤ 62 := by omega) : Stp A X E S (.bin .shl x y) (Is (.int .i64 ((2 ^ i : Nat) : Int)) S) :=
  stp_bin hx hy (by
    have h0 : ¬ ((i : Int) < 0) := by omega
    have h1 : min (i : Int).toNat (IntKind.bits .i64) = i := by simp [IntKind.bits]; omega
    have h2 : 2 ^ i ≤ 2 ^ 62 := Nat.pow_le_pow_right (by omega) hi
    simp only [mbin, shifts, if_true, mshift, if_neg h0, h1, Int.one_mul]
    have e : ((2 : Int) ^ i) = ((2 ^ i : Nat) : Int) := by simp
    have h3 : ((2 ^ i : Nat) : Int) ≤ 9223372036854775807 := by
      have : (2 : Nat) ^ 62 ≤ 9223372036854775807 := by decide
      exact Int.ofNat_le.2 (Nat.le_trans h2 this)
    have h4 := Int.natCast_nonneg (2 ^ i)
    rw [e, wrap64_id (by omega) (by omega)])
theorem stp_app4 {A : Heap} {X : List Nat} {E : List (Nat × AV)} {S S0 : Sig} {v w : AV} {x y : MX} {n m' : Nat} {cs news : List AV} (hx : evE E x = some v := by exact rfl) (hy : evE E y = some w := by exact rfl) (hs : Sel S ⟨.rw, v, 4, n, cs⟩ S0 := by exact Sel.auto) (hh : Has S w 4 m' news := by exact Has.auto) (hone : news.all AV.one = true := by exact rfl) (hm2 : n + m' ≤ 1000000000000 := by omega) :
    Stp A X E S (.app x y 4 32) (New fun u => ⟨.rw, u, 4, n + m', cs ++ news⟩ :: S0) := stp_app hx hy hs hh hone (by omega) (by omega) hm2
theorem stp_agne4 {A : Heap} {X : List Nat} {E : List (Nat × AV)} {S : Sig} {k : IntKind} {x y : MX} {a1 a2 a3 a4 b1 b2 b3 b4 : Int} (hx : evE E x = some (.agg [.int k a1, .int k a2, .int k a3, .int k a4]) := by exact rfl) (hy : evE E y = some (.agg [.int k b1, .int k b2, .int k b3, .int k b4]) := by exact rfl) : Stp A X E S (.ageq true 4 x y) (Is (.bool (decide (¬ (a1 = b1 ∧ a2 = b2 ∧ a3 = b3 ∧ a4 = b4)))) S) := by
  have h := stp_ageq (A := A) (X := X) (S := S) (neg := true) (n := 4) (b := (a1 == b1 && (a2 == b2 && (a3 == b3 && (a4 == b4 && true))))) hx hy rfl (by simp [flatEq])
  have e : (!(a1 == b1 && (a2 == b2 && (a3 == b3 && (a4 == b4 && true))))) = decide (¬ (a1 = b1 ∧ a2 = b2 ∧ a3 = b3 ∧ a4 = b4)) := by
    by_cases h1 : a1 = b1 <;> by_cases h2 : a2 = b2 <;> by_cases h3 : a3 = b3 <;> by_cases h4 : a4 = b4 <;> simp [h1, h2, h3, h4]
  simp only [if_true, e] at h
  exact h

/- regions that draw among a few orders -/
section
variable {P : Program} {A : Heap} {X : List Nat} {E F : List (Nat × AV)} {S S' S0 : Sig} {Q : Exit → St → Prop} {K : St → Prop} {r : List MI} {d : Nat} {v w : AV}
theorem gc_dra1 {l : List MI} (h : GO P A X E S l (Q .normal)) : GC P A X E S (.dra [l]) Q := ⟨fun s hf l' hl => by
  simp only [List.mem_singleton] at hl; subst hl; exact h.g s hf⟩
theorem gc_dra {l : List MI} {ls : List (List MI)} (h : GO P A X E S l (Q .normal)) (hr : GC P A X E S (.dra ls) Q) : GC P A X E S (.dra (l :: ls)) Q := ⟨fun s hf l' hl => by
  rcases List.mem_cons.1 hl with rfl | hl
  · exact h.g s hf
  · exact hr.g s hf l' hl⟩
theorem gc_scope {a : MC} (h : GC P A X E S a (scopeK Q)) : GC P A X E S (.scope a) Q := ⟨h.g⟩
theorem gk_scope (h : GK A X E S (Q .normal)) : GK A X E S (scopeK Q .normal) := ⟨h.g⟩
theorem gk_scoper (h : GK A X E S (Q .ret)) : GK A X E S (scopeK Q .ret) := ⟨h.g⟩
theorem gk_scopee {id : Nat} (h : GK A X E S (Q (.exit id))) : GK A X E S (scopeK Q (.exit id)) := ⟨h.g⟩

/-- operations of a region that draws with calls ahead of what it writes, none of which meet -/
structure GR (P : Program) (Qt : FuncId → List AV → Option AV) (A : Heap) (X : List Nat) (E : List (Nat × AV)) (S : Sig) (l : List MI) (K : St → Prop) : Prop where
  g : ∀ s acc, Fit A X E S s → cops P Qt l s acc [] K
variable {Qt : FuncId → List AV → Option AV}
theorem gc_drc {l : List MI} (Qt : Heap → FuncId → List AV → Option AV) (hq : ∀ H, SOk A X S H.size H → QtOk P (Qt H) H) (h : ∀ H, GR P (Qt H) A X E S l (Q .normal)) : GC P A X E S (.drc l []) Q :=
  ⟨fun s hf => ⟨Qt s.H, hq s.H hf.ok, (h s.H).g s [] hf⟩⟩
theorem gr_nil (h : GK A X E S K) : GR P Qt A X E S [] K := ⟨fun s acc hf => ⟨trivial, h.g s hf⟩⟩
theorem gr_is {op : MOp} (hp : op.isCall = false) (hs : Stp A X E S op (Is v S')) (hk : GR P Qt A X ((d, v) :: E) S' r K) : GR P Qt A X E S (⟨some d, none, op⟩ :: r) K := by
  refine ⟨fun s acc hf => ?_⟩
  obtain ⟨v', S'', H', h1, h2, h3⟩ := hf.step hs
  obtain ⟨rfl, rfl⟩ := h1
  simp only [cops, dstep_plain2 hp, h2]
  exact hk.g _ _ ⟨look_cons hf.env d _, h3⟩
theorem gr_is0 {op : MOp} (hp : op.isCall = false) (hs : Stp A X E S op (Is v S')) (hk : GR P Qt A X E S' r K) : GR P Qt A X E S (⟨none, none, op⟩ :: r) K := by
  refine ⟨fun s acc hf => ?_⟩
  obtain ⟨v', S'', H', h1, h2, h3⟩ := hf.step hs
  obtain ⟨rfl, rfl⟩ := h1
  simp only [cops, dstep_plain2 hp, h2]
  exact hk.g _ _ ⟨hf.env, h3⟩
theorem gr_inv {tab : List (TypeId × FuncId)} {x : MX} {args : List MX} {t : TypeId} {w : AV} {f : FuncId} (hx : evE E x = some (.iface t w) := by exact rfl) (hf : tabGet tab t = some f := by exact rfl) (h : GR P Qt A X E S (⟨some d, none, .call f (.c w :: args)⟩ :: r) K) : GR P Qt A X E S (⟨some d, none, .inv tab x args⟩ :: r) K := by
  refine ⟨fun s acc hs => ?_⟩
  have h1 := h.g s acc hs
  have e : dstep P Qt s.H.size ⟨some d, none, .inv tab x args⟩ s = dstep P Qt s.H.size ⟨some d, none, .call f (.c w :: args)⟩ s := by
    simp only [dstep, gcheck, mcallee, ev_of hs.env hx, hf, Option.map_some]
    rfl
  simp only [cops] at h1 ⊢
  rw [e]; exact h1
theorem gr_call {f : FuncId} {args : List MX} {vs : List AV} (ha : evsE E args = some vs) (hq : Qt f vs = some v) (hk : GR P Qt A X ((d, v) :: E) S r K) : GR P Qt A X E S (⟨some d, none, .call f args⟩ :: r) K := by
  refine ⟨fun s acc hf => ?_⟩
  have e : dstep P Qt s.H.size ⟨some d, none, .call f args⟩ s = some (v, s.H) := by
    simp only [dstep, gcheck, mcallee, evs_of hf.env ha, hq]
  simp only [cops, e]
  exact hk.g _ _ ⟨look_cons hf.env d _, hf.ok⟩
end

section
variable {A : Heap} {X : List Nat} {E : List (Nat × AV)} {S : Sig} {x y : MX}
theorem stp_andu {m n : Nat} (hx : evE E x = some (.int .u64 (m : Int)) := by exact rfl) (hy : evE E y = some (.int .u64 (n : Int)) := by exact rfl) (hm : m ≤ 18446744073709551615 := by omega) (hn : n ≤ 18446744073709551615 := by omega) : Stp A X E S (.bin .and x y) (Is (.int .u64 ((m &&& n : Nat) : Int)) S) :=
  stp_bin hx hy (by
    have h1 : (BitVec.ofInt 64 (m : Int)).toNat = m := by simp [BitVec.toNat_ofInt]; omega
    have h2 : (BitVec.ofInt 64 (n : Int)).toNat = n := by simp [BitVec.toNat_ofInt]; omega
    have h4 : (BitVec.ofInt 64 (m : Int) &&& BitVec.ofInt 64 (n : Int)).toNat = m &&& n := by rw [BitVec.toNat_and, h1, h2]
    have h3 : m &&& n ≤ n := Nat.and_le_right
    have h5 : IntKind.wrap .u64 ((BitVec.ofInt 64 (m : Int) &&& BitVec.ofInt 64 (n : Int)).toNat : Int) = ((m &&& n : Nat) : Int) := by
      rw [h4, wrapu_id (by omega) (by omega)]
    simp only [mbin, shifts, Bool.false_eq_true, if_false, if_true]
    exact congrArg (fun z => some (AV.int .u64 z)) h5)
theorem stp_andi {m n : Nat} (hx : evE E x = some (.int .i64 (m : Int)) := by exact rfl) (hy : evE E y = some (.int .i64 (n : Int)) := by exact rfl) (hm : m ≤ 9223372036854775807 := by omega) (hn : n ≤ 9223372036854775807 := by omega) : Stp A X E S (.bin .and x y) (Is (.int .i64 ((m &&& n : Nat) : Int)) S) :=
  stp_bin hx hy (by
    have h1 : (BitVec.ofInt 64 (m : Int)).toNat = m := by simp [BitVec.toNat_ofInt]; omega
    have h2 : (BitVec.ofInt 64 (n : Int)).toNat = n := by simp [BitVec.toNat_ofInt]; omega
    have h4 : (BitVec.ofInt 64 (m : Int) &&& BitVec.ofInt 64 (n : Int)).toNat = m &&& n := by rw [BitVec.toNat_and, h1, h2]
    have h3 : m &&& n ≤ n := Nat.and_le_right
    have h5 : IntKind.wrap .i64 ((BitVec.ofInt 64 (m : Int) &&& BitVec.ofInt 64 (n : Int)).toNat : Int) = ((m &&& n : Nat) : Int) := by
      rw [h4, wrap64_id (by omega) (by omega)]
    simp only [mbin, shifts, Bool.false_eq_true, if_false, if_true]
    exact congrArg (fun z => some (AV.int .i64 z)) h5)
theorem stp_addu {m n : Nat} (hx : evE E x = some (.int .u64 (m : Int)) := by exact rfl) (hy : evE E y = some (.int .u64 (n : Int)) := by exact rfl) (hw : m + n ≤ 18446744073709551615 := by omega) : Stp A X E S (.bin .add x y) (Is (.int .u64 ((m + n : Nat) : Int)) S) :=
  stp_bin hx hy (by simp only [mbin, shifts, Bool.false_eq_true, if_false, if_true]; rw [wrapu_id (by omega) (by omega)]; simp)
theorem stp_convi {n : Nat} (hx : evE E x = some (.int .u64 (n : Int)) := by exact rfl) (hw : n ≤ 9223372036854775807 := by omega) : Stp A X E S (.conv .i64 x) (Is (.int .i64 (n : Int)) S) := by
  have := stp_conv (A := A) (X := X) (E := E) (S := S) (k' := .i64) hx
  rwa [wrap64_id (by omega) (by omega)] at this
end
end Go.Rx
