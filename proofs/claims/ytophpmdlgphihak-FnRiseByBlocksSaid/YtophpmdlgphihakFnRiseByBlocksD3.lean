import Derived.Test.YtophpmdlgphihakFnRiseByBlocksD2
namespace Go.Rx.Try
open Go.Proofs
set_option maxRecDepth 100000
set_option maxHeartbeats 8000000
set_option linter.unusedSimpArgs false
set_option linter.unusedVariables false

theorem greatestF_ok {H : Heap} {w : AV} {f : Nat → Rat} {L : List Rat} (hw : Vals H w 2 L.length (frs L)) (hL : ∀ i, i < L.length → nthR L i = f (i + 1)) (hl : L.length ≤ 1000000) (hf : ∀ i j, i ≤ L.length → j ≤ L.length → FitA (f i) (f j)) :
    ACalls Try.prog fn_impl_greatest_impl_Frac [frV (f 0), w] H fun r H' => r = frV (hiR f L.length) ∧ H' = H := by
  refine ACalls.val ?_ rfl
  refine code_impl_greatest_impl_Frac.go [roF w L.length L] ⟨⟨rfl, hw⟩, trivial⟩ (by simp) ?_
  unfold mc_impl_greatest_impl_Frac
  (repeat (first | refine gst (hk := ?_) | (show GO _ _ _ _ _ (⟨some _, none, .inv _ _ _⟩ :: _) _; refine go_inv rfl rfl ?_) | (show GQ _ _ _ _ _ _ _ (⟨some _, none, .inv _ _ _⟩ :: _) _; refine gq_inv rfl rfl ?_) | (show GR _ _ _ _ _ _ (⟨some _, none, .inv _ _ _⟩ :: _) _; refine gr_inv rfl rfl ?_) | (show GO _ _ _ _ _ (⟨some _, none, _⟩ :: _) _; first | refine go_op (hk := ?_) | (refine go_nw (hk := ?_); intro u; try simp only [llc, lln, lna, lza]) | (refine go_np (hk := ?_); intro id)) | (show GO _ _ _ _ _ (⟨none, none, _⟩ :: _) _; refine go_st (hk := ?_)) | (show GO _ _ _ _ _ (⟨_, some _, _⟩ :: _) _; first | refine go_in (hk := ?_) | refine go_out (hk := ?_) | refine go_void (hk := ?_)) | (show GK _ _ _ _ (blockK _ _ _); refine gk_past rfl ?_) | (show GC _ _ _ _ _ (.cond _ _ _) _; first | refine gc_yes (h1 := ?_) | refine gc_no (h1 := ?_))))
  rename_i i2
  revert id; intro i4
  refine gc_up L.length (fun i => [(2, .ptr i2 0), (4, .ptr i4 0), (7, w), (8, .int .i64 (L.length : Int)), (9, .int .i64 (i : Int))]) (fun i => [celF i2 (hiR f i), cel0 i4, roF w L.length L]) (hb := ?_)
  intro i hi I ν m hk
  (repeat (first | refine gst (hk := ?_) | (show GO _ _ _ _ _ (⟨some _, none, .inv _ _ _⟩ :: _) _; refine go_inv rfl rfl ?_) | (show GQ _ _ _ _ _ _ _ (⟨some _, none, .inv _ _ _⟩ :: _) _; refine gq_inv rfl rfl ?_) | (show GR _ _ _ _ _ _ (⟨some _, none, .inv _ _ _⟩ :: _) _; refine gr_inv rfl rfl ?_) | (show GO _ _ _ _ _ (⟨some _, none, _⟩ :: _) _; first | refine go_op (hk := ?_) | (refine go_nw (hk := ?_); intro u; try simp only [llc, lln, lna, lza]) | (refine go_np (hk := ?_); intro id)) | (show GO _ _ _ _ _ (⟨none, none, _⟩ :: _) _; refine go_st (hk := ?_)) | (show GO _ _ _ _ _ (⟨_, some _, _⟩ :: _) _; first | refine go_in (hk := ?_) | refine go_out (hk := ?_) | refine go_void (hk := ?_)) | (show GK _ _ _ _ (blockK _ _ _); refine gk_past rfl ?_) | (show GC _ _ _ _ _ (.cond _ _ _) _; first | refine gc_yes (h1 := ?_) | refine gc_no (h1 := ?_))))
  refine gc_cond rfl (fun h => ?_) (fun h => ?_)
  · have hk := hk (by omega)
    rw [hiR] at hk
    have hfit : FitA (f (i + 1)) (hiR f i) := by
      obtain ⟨_, j, hj, e⟩ := hiR_is f i
      rw [e]; exact hf _ _ (by omega) (by omega)
    (repeat (first | refine gst (hk := ?_) | (show GO _ _ _ _ _ (⟨some _, none, .inv _ _ _⟩ :: _) _; refine go_inv rfl rfl ?_) | (show GQ _ _ _ _ _ _ _ (⟨some _, none, .inv _ _ _⟩ :: _) _; refine gq_inv rfl rfl ?_) | (show GR _ _ _ _ _ _ (⟨some _, none, .inv _ _ _⟩ :: _) _; refine gr_inv rfl rfl ?_) | (show GO _ _ _ _ _ (⟨some _, none, _⟩ :: _) _; first | refine go_op (hk := ?_) | (refine go_nw (hk := ?_); intro u; try simp only [llc, lln, lna, lza]) | (refine go_np (hk := ?_); intro id)) | (show GO _ _ _ _ _ (⟨none, none, _⟩ :: _) _; refine go_st (hk := ?_)) | (show GO _ _ _ _ _ (⟨_, some _, _⟩ :: _) _; first | refine go_in (hk := ?_) | refine go_out (hk := ?_) | refine go_void (hk := ?_)) | (show GK _ _ _ _ (blockK _ _ _); refine gk_past rfl ?_) | (show GC _ _ _ _ _ (.cond _ _ _) _; first | refine gc_yes (h1 := ?_) | refine gc_no (h1 := ?_))))
    refine go_is rfl (stp_ldF (i := i) rfl (by exact Has.auto) rfl (by omega)) ?_
    rw [hL i (by omega)]
    (repeat (first | refine gst (hk := ?_) | (show GO _ _ _ _ _ (⟨some _, none, .inv _ _ _⟩ :: _) _; refine go_inv rfl rfl ?_) | (show GQ _ _ _ _ _ _ _ (⟨some _, none, .inv _ _ _⟩ :: _) _; refine gq_inv rfl rfl ?_) | (show GR _ _ _ _ _ _ (⟨some _, none, .inv _ _ _⟩ :: _) _; refine gr_inv rfl rfl ?_) | (show GO _ _ _ _ _ (⟨some _, none, _⟩ :: _) _; first | refine go_op (hk := ?_) | (refine go_nw (hk := ?_); intro u; try simp only [llc, lln, lna, lza]) | (refine go_np (hk := ?_); intro id)) | (show GO _ _ _ _ _ (⟨none, none, _⟩ :: _) _; refine go_st (hk := ?_)) | (show GO _ _ _ _ _ (⟨_, some _, _⟩ :: _) _; first | refine go_in (hk := ?_) | refine go_out (hk := ?_) | refine go_void (hk := ?_)) | (show GK _ _ _ _ (blockK _ _ _); refine gk_past rfl ?_) | (show GC _ _ _ _ _ (.cond _ _ _) _; first | refine gc_yes (h1 := ?_) | refine gc_no (h1 := ?_))))
    refine go_callp rfl code_impl_Frac_compare.callable (fun H hH => implCompare_ok (p := f (i + 1)) (q := hiR f i) hfit) ?_
    (repeat (first | refine gst (hk := ?_) | (show GO _ _ _ _ _ (⟨some _, none, .inv _ _ _⟩ :: _) _; refine go_inv rfl rfl ?_) | (show GQ _ _ _ _ _ _ _ (⟨some _, none, .inv _ _ _⟩ :: _) _; refine gq_inv rfl rfl ?_) | (show GR _ _ _ _ _ _ (⟨some _, none, .inv _ _ _⟩ :: _) _; refine gr_inv rfl rfl ?_) | (show GO _ _ _ _ _ (⟨some _, none, _⟩ :: _) _; first | refine go_op (hk := ?_) | (refine go_nw (hk := ?_); intro u; try simp only [llc, lln, lna, lza]) | (refine go_np (hk := ?_); intro id)) | (show GO _ _ _ _ _ (⟨none, none, _⟩ :: _) _; refine go_st (hk := ?_)) | (show GO _ _ _ _ _ (⟨_, some _, _⟩ :: _) _; first | refine go_in (hk := ?_) | refine go_out (hk := ?_) | refine go_void (hk := ?_)) | (show GK _ _ _ _ (blockK _ _ _); refine gk_past rfl ?_) | (show GC _ _ _ _ _ (.cond _ _ _) _; first | refine gc_yes (h1 := ?_) | refine gc_no (h1 := ?_))))
    refine gc_cond rfl (fun h1 => ?_) (fun h1 => ?_)
    · rw [if_pos (cmR_pos.1 h1)] at hk
      (repeat (first | refine gst (hk := ?_) | (show GO _ _ _ _ _ (⟨some _, none, .inv _ _ _⟩ :: _) _; refine go_inv rfl rfl ?_) | (show GQ _ _ _ _ _ _ _ (⟨some _, none, .inv _ _ _⟩ :: _) _; refine gq_inv rfl rfl ?_) | (show GR _ _ _ _ _ _ (⟨some _, none, .inv _ _ _⟩ :: _) _; refine gr_inv rfl rfl ?_) | (show GO _ _ _ _ _ (⟨some _, none, _⟩ :: _) _; first | refine go_op (hk := ?_) | (refine go_nw (hk := ?_); intro u; try simp only [llc, lln, lna, lza]) | (refine go_np (hk := ?_); intro id)) | (show GO _ _ _ _ _ (⟨none, none, _⟩ :: _) _; refine go_st (hk := ?_)) | (show GO _ _ _ _ _ (⟨_, some _, _⟩ :: _) _; first | refine go_in (hk := ?_) | refine go_out (hk := ?_) | refine go_void (hk := ?_)) | (show GK _ _ _ _ (blockK _ _ _); refine gk_past rfl ?_) | (show GC _ _ _ _ _ (.cond _ _ _) _; first | refine gc_yes (h1 := ?_) | refine gc_no (h1 := ?_))))
      exact gk_next hk
    · rw [if_neg (fun h2 => h1 (cmR_pos.2 h2))] at hk
      (repeat (first | refine gst (hk := ?_) | (show GO _ _ _ _ _ (⟨some _, none, .inv _ _ _⟩ :: _) _; refine go_inv rfl rfl ?_) | (show GQ _ _ _ _ _ _ _ (⟨some _, none, .inv _ _ _⟩ :: _) _; refine gq_inv rfl rfl ?_) | (show GR _ _ _ _ _ _ (⟨some _, none, .inv _ _ _⟩ :: _) _; refine gr_inv rfl rfl ?_) | (show GO _ _ _ _ _ (⟨some _, none, _⟩ :: _) _; first | refine go_op (hk := ?_) | (refine go_nw (hk := ?_); intro u; try simp only [llc, lln, lna, lza]) | (refine go_np (hk := ?_); intro id)) | (show GO _ _ _ _ _ (⟨none, none, _⟩ :: _) _; refine go_st (hk := ?_)) | (show GO _ _ _ _ _ (⟨_, some _, _⟩ :: _) _; first | refine go_in (hk := ?_) | refine go_out (hk := ?_) | refine go_void (hk := ?_)) | (show GK _ _ _ _ (blockK _ _ _); refine gk_past rfl ?_) | (show GC _ _ _ _ _ (.cond _ _ _) _; first | refine gc_yes (h1 := ?_) | refine gc_no (h1 := ?_))))
      exact gk_next hk
  · have : i = L.length := by omega
    subst this
    (repeat (first | refine gst (hk := ?_) | (show GO _ _ _ _ _ (⟨some _, none, .inv _ _ _⟩ :: _) _; refine go_inv rfl rfl ?_) | (show GQ _ _ _ _ _ _ _ (⟨some _, none, .inv _ _ _⟩ :: _) _; refine gq_inv rfl rfl ?_) | (show GR _ _ _ _ _ _ (⟨some _, none, .inv _ _ _⟩ :: _) _; refine gr_inv rfl rfl ?_) | (show GO _ _ _ _ _ (⟨some _, none, _⟩ :: _) _; first | refine go_op (hk := ?_) | (refine go_nw (hk := ?_); intro u; try simp only [llc, lln, lna, lza]) | (refine go_np (hk := ?_); intro id)) | (show GO _ _ _ _ _ (⟨none, none, _⟩ :: _) _; refine go_st (hk := ?_)) | (show GO _ _ _ _ _ (⟨_, some _, _⟩ :: _) _; first | refine go_in (hk := ?_) | refine go_out (hk := ?_) | refine go_void (hk := ?_)) | (show GK _ _ _ _ (blockK _ _ _); refine gk_past rfl ?_) | (show GC _ _ _ _ _ (.cond _ _ _) _; first | refine gc_yes (h1 := ?_) | refine gc_no (h1 := ?_))))
    exact gk_retc rfl (by exact Sel.auto) rfl rfl fun H' hH => ⟨rfl, hH.leE⟩
/- fits -/

theorem sel_of_mem {c : Ch} : ∀ {S : Sig}, c ∈ S → ∃ S0, Sel S c S0 ∧ (c :: S0).Perm S
  | [], h => by cases h
  | d :: S, h => by
    rcases List.mem_cons.1 h with rfl | h
    · exact ⟨S, .head, List.Perm.refl _⟩
    · obtain ⟨S0, h1, h2⟩ := sel_of_mem h
      exact ⟨d :: S0, .tail h1, (List.Perm.swap d c S0).trans (h2.cons d)⟩

theorem sub_perm : ∀ {S' S : Sig}, S'.Perm S → Sub S S'
  | [], _, _ => .nil
  | c :: R, S, h => by
    obtain ⟨S0, h1, h2⟩ := sel_of_mem (h.mem_iff.1 (List.mem_cons_self ..))
    exact .cons h1 (sub_perm (h.trans h2.symm).cons_inv)

theorem sub_pre : ∀ {S' R S : Sig}, Sub S (S' ++ R) → Sub S S'
  | [], _, _, _ => .nil
  | _ :: _, _, _, .cons h h' => .cons h (sub_pre h')

theorem go_freeze {P : Program} {A : Heap} {X : List Nat} {E : List (Nat × AV)} {S S0 : Sig} {K : St → Prop} {l : List MI} {v : AV} {es n : Nat} {cs : List AV} (hs : Sel S ⟨.rw, v, es, n, cs⟩ S0) (h : GO P A X E (⟨.ro, v, es, n, cs⟩ :: S0) l K) : GO P A X E S l K := ⟨fun s hf => h.g s ⟨hf.env, (hf.ok.sel hs).freeze⟩⟩

theorem gc_nilK {P : Program} {A : Heap} {X : List Nat} {E : List (Nat × AV)} {S : Sig} {c : MC} {Q : Exit → St → Prop} (es : Nat) (h : GC P A X E (⟨.rw, .nilSlice, es, 0, []⟩ :: S) c Q) : GC P A X E S c Q := ⟨fun s hf => h.g s ⟨hf.env, hf.ok.nil es⟩⟩

noncomputable def dOne (args : List AV) (r : AV) : List AV → Option AV := fun a => by
  classical
  exact if a = args then some r else none

theorem dOne_is {args : List AV} {r : AV} : dOne args r args = some r := if_pos rfl

theorem dOne_ok {P : Program} {H : Heap} {f : FuncId} {args : List AV} {r : AV} (hc : Callable P f) (h : ACalls P f args H fun r' H' => r' = r ∧ H' = H) : FamOk P H f (dOne args r) := by
  intro a v hv
  unfold dOne at hv
  split at hv
  · rename_i e
    simp only [Option.some.injEq] at hv; subst hv; subst e
    exact ⟨hc, h⟩
  · cases hv

structure GD4 (P : Program) (Qt : FuncId → List AV → Option AV) (base k : Nat) (A : Heap) (X : List Nat) (E : List (Nat × AV)) (S : Sig) (acc : List (List Nat × List Nat)) (prs : List (Nat × Nat)) (l : List MI) (C : List (List Nat × List Nat) → Prop) (K : St → Prop) : Prop where
  g : ∀ s m, EnvOk E s.τ → SOk A X S m s.H → m ≤ base + k → dopsC P Qt base k l s acc prs C K

theorem gc_drw4 {P : Program} {A : Heap} {X : List Nat} {E : List (Nat × AV)} {S : Sig} {Q : Exit → St → Prop} {prs : List (Nat × Nat)} {l : List MI} (Qt : FuncId → List AV → Option AV) (h : ∀ H0, SOk A X S H0.size H0 → GD4 P Qt H0.size 0 A X E S [] prs l (fun acc => ∀ H, (∀ id, (∀ f ∈ acc, id ∉ f.2) → H.get id = H0.get id) → QtOk P Qt H) (Q .normal)) : GC P A X E S (.drw l prs) Q := by
  refine ⟨fun s hf => ?_⟩
  rw [mwp_drw]
  exact ⟨Qt, (h s.H hf.ok).g _ s.H.size hf.env (hf.ok.same (fun _ _ => rfl) (Nat.le_refl _) (by simp [Heap.ext])) (Nat.le_refl _)⟩

theorem gd4_nil {P : Program} {Qt : FuncId → List AV → Option AV} {base k : Nat} {A : Heap} {X : List Nat} {E : List (Nat × AV)} {S : Sig} {acc : List (List Nat × List Nat)} {prs : List (Nat × Nat)} {C : List (List Nat × List Nat) → Prop} {K : St → Prop} (hp : pairsOk acc prs) (hC : C acc) (h : GK A X E S K) : GD4 P Qt base k A X E S acc prs [] C K :=
  ⟨fun s m hE hS hm => ⟨⟨hp, hC⟩, h.g s ⟨hE, hS.bump hS.mh (Nat.le_refl _)⟩⟩⟩

theorem gd4_is {P : Program} {Qt : FuncId → List AV → Option AV} {base k : Nat} {A : Heap} {X : List Nat} {E : List (Nat × AV)} {S S' : Sig} {acc : List (List Nat × List Nat)} {prs : List (Nat × Nat)} {C : List (List Nat × List Nat) → Prop} {K : St → Prop} {r : List MI} {d : Nat} {v : AV} {op : MOp} (hq : (!op.isCall && !writes op && !reads op) = true) (hs : Stp A X E S op (Is v S')) (hk : GD4 P Qt base (k + 1) A X ((d, v) :: E) S' (acc ++ [([], [])]) prs r C K) : GD4 P Qt base k A X E S acc prs (⟨some d, none, op⟩ :: r) C K := by
  have hp : op.isCall = false := by simp at hq; exact hq.1.1
  refine ⟨fun s m hE hS hm => ?_⟩
  obtain ⟨v', S'', H', m', ⟨rfl, rfl⟩, h2, h3, h4, h5, h6⟩ := hs.stp s.τ s.H m (base + k) hE hS hm
  simp only [dopsC, dstep_plain2 hp, h2, (quiet_foot hq s.τ (base + k)).1, (quiet_foot hq s.τ (base + k)).2]
  exact hk.g _ m' (look_cons hE d _) h3 (by omega)

theorem gd4_ld {P : Program} {Qt : FuncId → List AV → Option AV} {base k : Nat} {A : Heap} {X : List Nat} {E : List (Nat × AV)} {S : Sig} {acc : List (List Nat × List Nat)} {prs : List (Nat × Nat)} {C : List (List Nat × List Nat) → Prop} {K : St → Prop} {r : List MI} {d n : Nat} {v u : AV} {p : MX} {b : Bool} (hp : evE E p = some u) (hs : Stp A X E S (.ld p n b) (Is v S)) (hk : GD4 P Qt base (k + 1) A X ((d, v) :: E) S (acc ++ [(vid u, [])]) prs r C K) : GD4 P Qt base k A X E S acc prs (⟨some d, none, .ld p n b⟩ :: r) C K := by
  refine ⟨fun s m hE hS hm => ?_⟩
  obtain ⟨v', S'', H', m', ⟨rfl, rfl⟩, h2, h3, h4, h5, h6⟩ := hs.stp s.τ s.H m (base + k) hE hS hm
  have hd0 : dstep P Qt (base + k) ⟨some d, none, (.ld p n b)⟩ s = mstep (base + k) s.τ s.H (.ld p n b) := dstep_plain2 rfl
  have hf : foot s.τ (.ld p n b) = vid u := by simp only [foot, ev_of hE hp]
  have ht : touch (base + k) s.τ (.ld p n b) = [] := rfl
  simp only [dopsC, hd0, h2, hf, ht]
  exact hk.g _ m' (look_cons hE d _) h3 (by omega)

theorem gd4_call {P : Program} {Qt : FuncId → List AV → Option AV} {base k : Nat} {A : Heap} {X : List Nat} {E : List (Nat × AV)} {S : Sig} {acc : List (List Nat × List Nat)} {prs : List (Nat × Nat)} {C : List (List Nat × List Nat) → Prop} {K : St → Prop} {r : List MI} {d : Nat} {v : AV} {f : FuncId} {args : List MX} {vs : List AV} (ha : evsE E args = some vs) (hq : Qt f vs = some v) (hk : GD4 P Qt base (k + 1) A X ((d, v) :: E) S (acc ++ [([], [])]) prs r C K) : GD4 P Qt base k A X E S acc prs (⟨some d, none, .call f args⟩ :: r) C K := by
  refine ⟨fun s m hE hS hm => ?_⟩
  have e : dstep P Qt (base + k) ⟨some d, none, .call f args⟩ s = some (v, s.H) := by
    simp only [dstep, gcheck, mcallee, evs_of hE ha, hq]
  simp only [dopsC, e]
  exact hk.g _ m (look_cons hE d _) hS (by omega)

theorem gd4_new {P : Program} {Qt : FuncId → List AV → Option AV} {base k : Nat} {A : Heap} {X : List Nat} {E : List (Nat × AV)} {S : Sig} {acc : List (List Nat × List Nat)} {prs : List (Nat × Nat)} {C : List (List Nat × List Nat) → Prop} {K : St → Prop} {r : List MI} {d : Nat} {z : List AV} (hk : GD4 P Qt base (k + 1) A X ((d, .ptr (base + k) 0) :: E) (⟨.cell, .ptr (base + k) 0, z.length, 1, z⟩ :: S) (acc ++ [([], [base + k])]) prs r C K) : GD4 P Qt base k A X E S acc prs (⟨some d, none, .new z⟩ :: r) C K := by
  refine ⟨fun s m hE hS hm => ?_⟩
  obtain ⟨v', S'', H', m', hN, h2, h3, h4, h5, h6⟩ := (stp_new (A := A) (X := X) (E := E) (S := S) (z := z)).stp s.τ s.H m (base + k) hE hS hm
  have hd0 : dstep P Qt (base + k) ⟨some d, none, (.new z)⟩ s = mstep (base + k) s.τ s.H (.new z) := dstep_plain2 rfl
  have hv : v' = .ptr (base + k) 0 := by
    simp only [mstep, Option.some.injEq, Prod.mk.injEq] at h2
    exact h2.1.symm
  obtain ⟨id, hid, rfl⟩ := hN
  rw [hv] at hid h2
  simp only [AV.ptr.injEq, and_true] at hid
  subst hid
  simp only [dopsC, hd0, h2]
  exact hk.g _ m' (look_cons hE d _) h3 (by omega)

theorem gd4_st {P : Program} {Qt : FuncId → List AV → Option AV} {base k : Nat} {A : Heap} {X : List Nat} {E : List (Nat × AV)} {S S' : Sig} {acc : List (List Nat × List Nat)} {prs : List (Nat × Nat)} {C : List (List Nat × List Nat) → Prop} {K : St → Prop} {r : List MI} {n : Nat} {v u : AV} {p x : MX} (hp : evE E p = some u) (hs : Stp A X E S (.st p x n) (Is v S')) (hk : GD4 P Qt base (k + 1) A X E S' (acc ++ [(vid u, vid u)]) prs r C K) : GD4 P Qt base k A X E S acc prs (⟨none, none, .st p x n⟩ :: r) C K := by
  refine ⟨fun s m hE hS hm => ?_⟩
  obtain ⟨v', S'', H', m', ⟨rfl, rfl⟩, h2, h3, h4, h5, h6⟩ := hs.stp s.τ s.H m (base + k) hE hS hm
  have hd0 : dstep P Qt (base + k) ⟨none, none, (.st p x n)⟩ s = mstep (base + k) s.τ s.H (.st p x n) := dstep_plain2 rfl
  have hf : foot s.τ (.st p x n) = vid u := by simp only [foot, ev_of hE hp]
  have ht : touch (base + k) s.τ (.st p x n) = vid u := by simp only [touch, ev_of hE hp]
  simp only [dopsC, hd0, h2, hf, ht]
  exact hk.g _ m' hE h3 (by omega)
/- a part of what a slice holds -/

theorem vals_sub {α : Type} {c : α → List AV} {k : Nat} (hc : Cels c k) {H : Heap} {v : AV} {n l : Nat} {L : List α} (hv : Vals H v k n (cellsK c L)) (hn : n = L.length) (hl : l ≤ n) : Vals H (subW v l n) k (n - l) (cellsK c (L.drop l)) := by
  have hbid : ∀ j, (subW v l n).bid = some j → v.bid = some j := by
    intro j hj
    cases v <;> first | exact hj | (simp [subW, AV.bid] at hj; done)
  have hcl : (cellsK c (L.drop l)).length = (n - l) * k := by rw [ck_len hc, List.length_drop, hn]
  cases v with
  | slice id off n' cap es =>
    have e1 : n' = n := hv.len
    have e2 : es = k := by
      rcases hv.esn with h | h
      · cases h
      · simpa [AV.es] using h
    subst e1; subst e2
    refine ⟨rfl, rfl, .inr rfl, hcl, ?_, fun j hj => hv.bid j (hbid j hj)⟩
    have hr := hv.row
    simp only [subW, Heap.row] at hr ⊢
    by_cases h0 : n' - l = 0
    · rw [if_pos h0]
      have : L.drop l = [] := List.drop_eq_nil_of_le (by omega)
      rw [this]; rfl
    · rw [if_neg (by omega)] at hr
      rw [if_neg h0]
      simp only [Heap.read] at hr ⊢
      split at hr
      · rename_i b hb
        split at hr
        · rename_i h1
          simp only [Option.some.injEq] at hr
          have hm : l * es + (n' - l) * es = n' * es := by rw [← Nat.add_mul]; congr 1; omega
          rw [if_pos (by omega), ← ck_drop hc, ← hr, List.drop_take, List.drop_drop, show n' * es - l * es = (n' - l) * es by omega]
        · cases hr
      · cases hr
  | nilSlice =>
    have e1 : 0 = n := hv.len
    subst e1
    have : L = [] := List.eq_nil_of_length_eq_zero hn.symm
    subst this
    have h0 : l = 0 := by omega
    subst h0
    exact hv
  | _ => exact absurd hv.sl (by simp [AV.isSlice])
/- the pairs of points, in their order -/

theorem frs_ck : ∀ L : List Rat, frs L = cellsK frC L
  | [] => rfl
  | q :: L => by rw [frs, cellsK, frs_ck L]

theorem cels_fr : Cels frC 2 := ⟨fun _ => rfl, fun _ => rfl⟩

def fwL (f : Nat → Rat) : Nat → List Rat
  | 0 => []
  | i + 1 => fwL f i ++ [f i]

theorem fwL_len (f : Nat → Rat) : ∀ i, (fwL f i).length = i
  | 0 => rfl
  | i + 1 => by rw [fwL, List.length_append, fwL_len f i]; rfl

theorem fwL_nth (f : Nat → Rat) : ∀ {n i : Nat}, i < n → nthR (fwL f n) i = f i
  | 0, i, h => by omega
  | n + 1, i, h => by
    rw [fwL]
    rcases Nat.lt_or_ge i n with h1 | h1
    · rw [nthR_app (by rw [fwL_len]; exact h1), fwL_nth f h1]
    · have : i = n := by omega
      subst this
      have e := nthR_last (L := fwL f i) (q := f i)
      rwa [fwL_len] at e

/-- what is needed of a list of fractions of which the least or the greatest is taken -/
theorem rest_vals {H : Heap} {u : AV} {f : Nat → Rat} {n : Nat} (hv : Vals H u 2 n (frs (fwL f n))) (hn : 0 < n) : Vals H (subW u 1 n) 2 (n - 1) (frs ((fwL f n).drop 1)) ∧ ((fwL f n).drop 1).length = n - 1 ∧ ∀ i, i < n - 1 → nthR ((fwL f n).drop 1) i = f (i + 1) := by
  refine ⟨?_, ?_, fun i hi => ?_⟩
  · rw [frs_ck] at hv ⊢
    exact vals_sub cels_fr hv (fwL_len f n).symm (by omega)
  · rw [List.length_drop, fwL_len]
  · rw [← fwL_nth f (n := n) (i := i + 1) (by omega)]
    unfold nthR
    rw [List.getD_eq_getElem?_getD, List.getD_eq_getElem?_getD, List.getElem?_drop, Nat.add_comm]

theorem least_call {H : Heap} {u : AV} {f : Nat → Rat} {n : Nat} (hv : Vals H u 2 n (frs (fwL f n))) (hn : 0 < n) (hl : n ≤ 1000000) (hf : ∀ i j, i < n → j < n → FitA (f i) (f j)) : FamOk Try.prog H fn_impl_least_impl_Frac (dOne [frV (f 0), subW u 1 n] (frV (loR f (n - 1)))) := by
  obtain ⟨h1, h2, h3⟩ := rest_vals hv hn
  have h := leastF_ok (H := H) (w := subW u 1 n) (f := f) (L := (fwL f n).drop 1) (by rw [h2]; exact h1) (fun i hi => h3 i (by omega)) (by omega) (fun i j hi hj => hf i j (by omega) (by omega))
  rw [h2] at h
  exact dOne_ok code_impl_least_impl_Frac.callable h

theorem greatest_call {H : Heap} {u : AV} {f : Nat → Rat} {n : Nat} (hv : Vals H u 2 n (frs (fwL f n))) (hn : 0 < n) (hl : n ≤ 1000000) (hf : ∀ i j, i < n → j < n → FitA (f i) (f j)) : FamOk Try.prog H fn_impl_greatest_impl_Frac (dOne [frV (f 0), subW u 1 n] (frV (hiR f (n - 1)))) := by
  obtain ⟨h1, h2, h3⟩ := rest_vals hv hn
  have h := greatestF_ok (H := H) (w := subW u 1 n) (f := f) (L := (fwL f n).drop 1) (by rw [h2]; exact h1) (fun i hi => h3 i (by omega)) (by omega) (fun i j hi hj => hf i j (by omega) (by omega))
  rw [h2] at h
  exact dOne_ok code_impl_greatest_impl_Frac.callable h

def foC : Option Rat → List AV
  | none => [.int .i64 0, .int .i64 0]
  | some q => frC q

theorem cels_fo : Cels foC 2 := ⟨fun a => by cases a <;> rfl, fun a => by cases a <;> rfl⟩

theorem fo_some (n : Nat) (f : Nat → Rat) : cellsK foC (tabS n fun j => some (f j)) = frs (tabS n f) := by
  unfold tabS
  generalize List.range n = l
  induction l with
  | nil => rfl
  | cons a l ih =>
    rw [List.map_cons, List.map_cons, frs, cellsK, ih]; rfl

theorem go_sub {P : Program} {A : Heap} {X : List Nat} {E : List (Nat × AV)} {S S' : Sig} {l : List MI} {K : St → Prop} (hs : Sub S S') (h : GO P A X E S' l K) : GO P A X E S l K := ⟨fun s hf => h.g s ⟨hf.env, hf.ok.sub hs⟩⟩
/- an element's fields -/

theorem Pts.neg {xs ys : List Int} (h : Pts xs ys) : Pts xs (ys.map (- ·)) := by
  obtain ⟨h1, h2, h3⟩ := h
  refine ⟨fun i hi => ?_, by simp [h2], h3⟩
  have h4 := h1 i hi
  rw [getD_map _ (by omega)]
  exact ⟨by simp; omega, h4.2.1, by omega⟩

theorem Cloud.neg {xs ys : List Int} (h : Cloud xs ys) : Cloud xs (ys.map (- ·)) := ⟨h.1.neg, h.2⟩
/- slopes of what is turned, of what is negated -/

theorem nth_take {xs : List Int} {m i : Nat} (h : i < m) : nth (xs.take m) i = nth xs i := by
  unfold nth
  simp [List.getD, List.getElem?_take_of_lt h]

theorem Pts.take {xs ys : List Int} (h : Pts xs ys) (m : Nat) : Pts (xs.take m) (ys.take m) := by
  obtain ⟨h1, h2, h3⟩ := h
  refine ⟨fun i hi => ?_, by simp [h2], by simp; omega⟩
  rw [List.length_take] at hi
  have h4 := h1 i (by omega)
  rw [nth_take (by omega), nth_take (by omega), List.length_take]
  exact ⟨by omega, h4.2⟩

theorem CvOk.take {xs ys : List Int} (h : CvOk xs ys) {m : Nat} (h1 : 1 ≤ m) (hm : m ≤ xs.length) : CvOk (xs.take m) (ys.take m) := by
  have h5 := h.1.2
  have hl : (xs.take m).length = m := by rw [List.length_take]; omega
  refine ⟨⟨h.1.1.take m, by rw [hl]; omega⟩, fun i hi k hk => ?_⟩
  rw [hl] at hi
  rw [nth_take (by omega), nth_take (by omega)]
  exact h.2 i (by omega) k hk

theorem leTot (a b : Rat) : a ≤ b ∨ b ≤ a := Rat.le_total

theorem le_divR {a c d : Rat} (hd : 0 < d) : c ≤ a / d ↔ c * d ≤ a := by
  have hn : d ≠ 0 := by grind
  have h1 : a / d * d = a := Rat.div_mul_cancel hn
  constructor
  · intro h
    have := Rat.mul_le_mul_of_nonneg_right h (Rat.le_of_lt hd)
    rw [h1] at this; exact this
  · intro h
    rcases leTot c (a / d) with h2 | h2
    · exact h2
    · have := Rat.mul_le_mul_of_nonneg_right h2 (Rat.le_of_lt hd)
      rw [h1] at this
      have h3 : c * d = a := Rat.le_antisymm h this
      have : c = a / d := by rw [← h3, Rat.div_def, Rat.mul_assoc, Rat.mul_inv_cancel _ hn, Rat.mul_one]
      rw [this]; exact Rat.le_refl

theorem div_leR {a c d : Rat} (hd : 0 < d) : a / d ≤ c ↔ a ≤ c * d := by
  have hn : d ≠ 0 := by grind
  have h1 : a / d * d = a := Rat.div_mul_cancel hn
  constructor
  · intro h
    have := Rat.mul_le_mul_of_nonneg_right h (Rat.le_of_lt hd)
    rw [h1] at this; exact this
  · intro h
    rcases leTot (a / d) c with h2 | h2
    · exact h2
    · have := Rat.mul_le_mul_of_nonneg_right h2 (Rat.le_of_lt hd)
      rw [h1] at this
      have h3 : c * d = a := Rat.le_antisymm this h
      have : c = a / d := by rw [← h3, Rat.div_def, Rat.mul_assoc, Rat.mul_inv_cancel _ hn, Rat.mul_one]
      rw [this]; exact Rat.le_refl

def mnA (S W : Nat → Rat) (i e : Nat) : Rat := (S e - S i) / (W e - W i)

def AscW (W : Nat → Rat) (n : Nat) : Prop := ∀ i, i < n → W i < W (i + 1)

theorem AscW.lt {W : Nat → Rat} {n : Nat} (h : AscW W n) {i : Nat} : ∀ {j}, i < j → j ≤ n → W i < W j
  | 0, h1, _ => absurd h1 (Nat.not_lt_zero _)
  | j + 1, h1, h2 => by
    have := h j h2
    rcases Nat.lt_or_ge i j with h3 | h3
    · have := h.lt (j := j) h3 (by omega); grind
    · rw [show i = j by omega]; exact this

theorem AscW.le {W : Nat → Rat} {n : Nat} (h : AscW W n) {i j : Nat} (h1 : i ≤ j) (h2 : j ≤ n) : W i ≤ W j := by
  rcases Nat.lt_or_ge i j with h3 | h3
  · exact Rat.le_of_lt (h.lt h3 h2)
  · rw [show i = j by omega]; exact Rat.le_refl

theorem AscW.sub {W : Nat → Rat} {n m : Nat} (h : AscW W n) (hm : m ≤ n) : AscW W m := fun i hi => h i (by omega)

theorem mnA_mul {S W : Nat → Rat} {i e : Nat} (h : W i < W e) : mnA S W i e * (W e - W i) = S e - S i := Rat.div_mul_cancel (by grind)

theorem le_mnA {S W : Nat → Rat} {i e : Nat} {c : Rat} (h : W i < W e) : c ≤ mnA S W i e ↔ c * (W e - W i) ≤ S e - S i := le_divR (by grind)

theorem mnA_le {S W : Nat → Rat} {i e : Nat} {c : Rat} (h : W i < W e) : mnA S W i e ≤ c ↔ S e - S i ≤ c * (W e - W i) := div_leR (by grind)

theorem mulR_le {a b d : Rat} (hd : 0 ≤ d) (h : a ≤ b) : a * d ≤ b * d := Rat.mul_le_mul_of_nonneg_right h hd

theorem mulR_ge {a b d : Rat} (hd : d ≤ 0) (h : a ≤ b) : b * d ≤ a * d := by
  have := mulR_le (a := a) (b := b) (d := -d) (by grind) h
  grind

/-- the line with slope c through s and e lies below all sums up to n; j is between s and e -/
def Sup (S W : Nat → Rat) (n j : Nat) (c : Rat) : Prop := ∃ s e, s ≤ j ∧ j < e ∧ e ≤ n ∧ S e - S s = c * (W e - W s) ∧ ∀ t, t ≤ n → c * (W t - W s) ≤ S t - S s

theorem Sup.uniq {S W : Nat → Rat} {n j : Nat} {c d : Rat} (hW : AscW W n) (h : Sup S W n j c) (h' : Sup S W n j d) : c = d := by
  have one : ∀ {c d : Rat}, Sup S W n j c → Sup S W n j d → ¬ c < d := by
    rintro c d ⟨s, e, h1, h2, h3, h4, h5⟩ ⟨s', e', g1, g2, g3, g4, g5⟩ hlt
    -- on e: S e is on the line of slope c through s; from s' on the line of slope d
    have a1 := h5 s' (by omega)
    have a2 := g5 e h3
    have a3 := hW.lt (i := s') (j := e) (by omega) h3
    have a4 := mulR_le (d := W e - W s') (by grind) (Rat.le_of_lt hlt)
    have a5 : c * (W e - W s') ≠ d * (W e - W s') := fun h => by
      have : (d - c) * (W e - W s') = 0 := by grind
      have h6 : 0 < (d - c) * (W e - W s') := Rat.mul_pos (by grind) (by grind)
      grind
    grind
  exact Rat.le_antisymm (Rat.not_lt.1 (one h' h)) (Rat.not_lt.1 (one h h'))

/- stacks of blocks: the last one's start ahead, e the end -/

def Bks (S W : Nat → Rat) : List Nat → Nat → Prop
  | [], e => e = 0
  | a :: r, e => a < e ∧ (∀ t, a ≤ t → t ≤ e → mnA S W a e * (W t - W a) ≤ S t - S a) ∧ Bks S W r a

def Inc (S W : Nat → Rat) : List Nat → Nat → Prop
  | [], _ => True
  | [_], _ => True
  | a :: b :: r, e => mnA S W b a < mnA S W a e ∧ Inc S W (b :: r) a

theorem Bks.len {S W : Nat → Rat} : ∀ {r : List Nat} {e}, Bks S W r e → r.length ≤ e
  | [], _, h => by simp
  | a :: r, e, h => by
    have := Bks.len h.2.2
    have := h.1
    simp only [List.length_cons]; omega

/-- two blocks joined -/
theorem Bks.join {S W : Nat → Rat} {n : Nat} (hW : AscW W n) {a b e : Nat} {r : List Nat} (he : e ≤ n) (h : Bks S W (a :: b :: r) e) (hm : mnA S W a e ≤ mnA S W b a) : Bks S W (b :: r) e := by
  obtain ⟨h1, h2, h3, h4, h5⟩ := h
  refine ⟨by omega, ?_, h5⟩
  have wba := hW.lt h3 (by omega)
  have wae := hW.lt h1 he
  have wbe : W b < W e := by grind
  have p := mnA_mul (S := S) wba
  have q := mnA_mul (S := S) wae
  have m := mnA_mul (S := S) wbe
  have m1 : mnA S W b e ≤ mnA S W b a := (mnA_le wbe).2 (by
    have := mulR_le (d := W e - W a) (by grind) hm
    grind)
  have m2 : mnA S W a e ≤ mnA S W b e := (le_mnA wbe).2 (by
    have := mulR_le (d := W a - W b) (by grind) hm
    grind)
  intro t ht ht2
  rcases Nat.le_total t a with h6 | h6
  · have := h4 t ht h6
    have wt := hW.le ht (by omega)
    have := mulR_le (d := W t - W b) (by grind) m1
    grind
  · have := h2 t h6 ht2
    have wt := hW.le ht2 he
    have := mulR_le (d := W e - W t) (by grind) m2
    grind

/-- the last block's line lies below all that is behind -/
theorem Bks.back {S W : Nat → Rat} {n : Nat} (hW : AscW W n) : ∀ {r : List Nat} {a e : Nat}, e ≤ n → Bks S W (a :: r) e → Inc S W (a :: r) e → ∀ t, t ≤ e → mnA S W a e * (W t - W a) ≤ S t - S a
  | [], a, e, he, h, _, t, ht => by
    obtain ⟨h1, h2, h3⟩ := h
    obtain rfl : a = 0 := h3
    exact h2 t (by omega) ht
  | b :: r, a, e, he, h, hi, t, ht => by
    have ⟨h1, h2, h3⟩ := h
    rcases Nat.le_total a t with h4 | h4
    · exact h2 t h4 ht
    · have := Bks.back hW (by omega) h3 hi.2 t h4
      have wba := hW.lt h3.1 (by omega)
      have p := mnA_mul (S := S) wba
      have wt := hW.le h4 (by omega)
      have := mulR_ge (d := W t - W a) (by grind) (Rat.le_of_lt hi.1)
      grind

/-- the block's mean at each place -/
def fitB (S W : Nat → Rat) : List Nat → Nat → Nat → Rat
  | [], _, _ => 0
  | a :: r, e, j => if a ≤ j then mnA S W a e else fitB S W r a j

theorem Bks.sup {S W : Nat → Rat} {n : Nat} (hW : AscW W n) : ∀ {r : List Nat} {a e : Nat}, e ≤ n → Bks S W (a :: r) e → Inc S W (a :: r) e → ∀ j, j < e → Sup S W e j (fitB S W (a :: r) e j) ∧ fitB S W (a :: r) e j ≤ mnA S W a e
  | r, a, e, he, h, hi, j, hj => by
    have wae := hW.lt h.1 he
    have q := mnA_mul (S := S) wae
    rcases Nat.lt_or_ge j a with h1 | h1
    · match r, h, hi with
      | [], h, hi => obtain rfl : a = 0 := h.2.2; omega
      | b :: r, h, hi =>
        have hs := Bks.sup hW (by have := h.1; omega) h.2.2 hi.2 j h1
        rw [show fitB S W (a :: b :: r) e j = fitB S W (b :: r) a j by
          show (if a ≤ j then _ else _) = _
          rw [if_neg (by omega)]]
        generalize fitB S W (b :: r) a j = c at hs ⊢
        obtain ⟨⟨s, u, g1, g2, g3, g4, g5⟩, g6⟩ := hs
        have g7 : c ≤ mnA S W a e := Rat.le_trans g6 (Rat.le_of_lt hi.1)
        refine ⟨⟨s, u, g1, g2, by have := h.1; omega, g4, fun t ht => ?_⟩, g7⟩
        rcases Nat.le_total t a with h3 | h3
        · exact g5 t h3
        · have k1 := h.2.1 t h3 ht
          have k2 := g5 a (Nat.le_refl _)
          have wt := hW.le h3 (by omega)
          have k3 := mulR_le (d := W t - W a) (by grind) g7
          grind
    · rw [show fitB S W (a :: r) e j = mnA S W a e by
        show (if a ≤ j then _ else _) = _
        rw [if_pos h1]]
      exact ⟨⟨a, e, h1, hj, Nat.le_refl _, q.symm, Bks.back hW he h hi⟩, Rat.le_refl⟩
/- the stack when blocks are joined -/

def popS (S W : Nat → Rat) (e : Nat) : List Nat → List Nat
  | a :: b :: r => if mnA S W b a < mnA S W a e then a :: b :: r else popS S W e (b :: r)
  | l => l

def poS (S W : Nat → Rat) : Nat → List Nat
  | 0 => []
  | k + 1 => popS S W (k + 1) (k :: poS S W k)

theorem popS_ok {S W : Nat → Rat} {n : Nat} (hW : AscW W n) {e : Nat} (he : e ≤ n) : ∀ {r : List Nat} {a : Nat}, Bks S W (a :: r) e → (∀ b r', r = b :: r' → Inc S W (b :: r') a) → ∃ a' r', popS S W e (a :: r) = a' :: r' ∧ Bks S W (a' :: r') e ∧ Inc S W (a' :: r') e
  | [], a, h, _ => ⟨a, [], rfl, h, trivial⟩
  | b :: r, a, h, hi => by
    rw [show popS S W e (a :: b :: r) = if mnA S W b a < mnA S W a e then a :: b :: r else popS S W e (b :: r) from rfl]
    by_cases hc : mnA S W b a < mnA S W a e
    · rw [if_pos hc]; exact ⟨a, b :: r, rfl, h, hc, hi b r rfl⟩
    · rw [if_neg hc]
      have hj := h.join hW he (Rat.not_lt.1 hc)
      refine popS_ok hW he hj fun b' r' hr => ?_
      subst hr
      exact (hi b _ rfl).2

theorem poS_ok {S W : Nat → Rat} {n : Nat} (hW : AscW W n) : ∀ {k}, k ≤ n → Bks S W (poS S W k) k ∧ Inc S W (poS S W k) k
  | 0, _ => ⟨rfl, trivial⟩
  | k + 1, hk => by
    have ih := poS_ok (S := S) hW (k := k) (by omega)
    have hB : Bks S W (k :: poS S W k) (k + 1) := by
      refine ⟨by omega, fun t h1 h2 => ?_, ih.1⟩
      have w := hW k hk
      have q := mnA_mul (S := S) w
      rcases Nat.lt_or_ge k t with h3 | h3
      · obtain rfl : t = k + 1 := by omega
        grind
      · obtain rfl : t = k := by omega
        grind
    obtain ⟨a', r', e1, e2, e3⟩ := popS_ok hW hk hB fun b r' hr => by rw [← hr]; exact ih.2
    show Bks S W (popS S W (k + 1) (k :: poS S W k)) _ ∧ Inc S W (popS S W (k + 1) (k :: poS S W k)) _
    rw [e1]; exact ⟨e2, e3⟩

theorem poS_pos {S W : Nat → Rat} {n : Nat} (hW : AscW W n) {k : Nat} (hk : k ≤ n) (h0 : 0 < k) : ∃ a r, poS S W k = a :: r := by
  have := (poS_ok (S := S) hW hk).1
  cases h : poS S W k with
  | nil => rw [h] at this; have h3 : k = 0 := this; omega
  | cons a r => exact ⟨a, r, rfl⟩

theorem poS_sup {S W : Nat → Rat} {n : Nat} (hW : AscW W n) {j : Nat} (hj : j < n) : Sup S W n j (fitB S W (poS S W n) n j) := by
  obtain ⟨h1, h2⟩ := poS_ok (S := S) hW (Nat.le_refl n)
  obtain ⟨a, r, e⟩ := poS_pos (S := S) hW (Nat.le_refl n) (by omega)
  rw [e] at h1 h2 ⊢
  exact (Bks.sup hW (Nat.le_refl _) h1 h2 j hj).1

noncomputable def fitN (S W : Nat → Rat) (n j : Nat) : Rat := fitB S W (poS S W n) n j

theorem Sup.fit {S W : Nat → Rat} {n j : Nat} {c : Rat} (hW : AscW W n) (h : Sup S W n j c) : fitN S W n j = c := by
  have hj : j < n := by obtain ⟨s, e, h1, h2, h3, _⟩ := h; omega
  exact (poS_sup hW hj).uniq hW h

/-- by means: the least one, from i up to j or farther -/
noncomputable def mmL (S W : Nat → Rat) (i j : Nat) : Nat → Rat
  | 0 => mnA S W i (j + 1)
  | m + 1 => if mnA S W i (j + m + 2) < mmL S W i j m then mnA S W i (j + m + 2) else mmL S W i j m

theorem mmL_is (S W : Nat → Rat) (i j : Nat) : ∀ m, (∀ k, j ≤ k → k ≤ j + m → mmL S W i j m ≤ mnA S W i (k + 1)) ∧ ∃ k, j ≤ k ∧ k ≤ j + m ∧ mmL S W i j m = mnA S W i (k + 1)
  | 0 => ⟨fun k h1 h2 => (by obtain rfl : k = j := (by omega); exact Rat.le_refl), j, by omega, by omega, rfl⟩
  | m + 1 => by
    obtain ⟨h1, k0, h2, h3, h4⟩ := mmL_is S W i j m
    rw [show mmL S W i j (m + 1) = if mnA S W i (j + m + 2) < mmL S W i j m then mnA S W i (j + m + 2) else mmL S W i j m from rfl]
    by_cases hc : mnA S W i (j + m + 2) < mmL S W i j m
    · rw [if_pos hc]
      refine ⟨fun k g1 g2 => ?_, j + m + 1, by omega, by omega, rfl⟩
      rcases Nat.lt_or_ge (j + m) k with g3 | g3
      · obtain rfl : k = j + m + 1 := by omega
        exact Rat.le_refl
      · exact Rat.le_trans (Rat.le_of_lt hc) (h1 k g1 g3)
    · rw [if_neg hc]
      refine ⟨fun k g1 g2 => ?_, k0, h2, by omega, h4⟩
      rcases Nat.lt_or_ge (j + m) k with g3 | g3
      · obtain rfl : k = j + m + 1 := by omega
        exact Rat.not_lt.1 hc
      · exact h1 k g1 g3

noncomputable def mmH (S W : Nat → Rat) (n j : Nat) : Nat → Rat
  | 0 => mmL S W 0 j (n - 1 - j)
  | i + 1 => if mmH S W n j i < mmL S W (i + 1) j (n - 1 - j) then mmL S W (i + 1) j (n - 1 - j) else mmH S W n j i

theorem mmH_is (S W : Nat → Rat) (n j : Nat) : ∀ m, (∀ i, i ≤ m → mmL S W i j (n - 1 - j) ≤ mmH S W n j m) ∧ ∃ i, i ≤ m ∧ mmH S W n j m = mmL S W i j (n - 1 - j)
  | 0 => ⟨fun i h => (by obtain rfl : i = 0 := (by omega); exact Rat.le_refl), 0, by omega, rfl⟩
  | m + 1 => by
    obtain ⟨h1, i0, h2, h3⟩ := mmH_is S W n j m
    rw [show mmH S W n j (m + 1) = if mmH S W n j m < mmL S W (m + 1) j (n - 1 - j) then mmL S W (m + 1) j (n - 1 - j) else mmH S W n j m from rfl]
    by_cases hc : mmH S W n j m < mmL S W (m + 1) j (n - 1 - j)
    · rw [if_pos hc]
      refine ⟨fun i g1 => ?_, m + 1, by omega, rfl⟩
      rcases Nat.lt_or_ge m i with g3 | g3
      · obtain rfl : i = m + 1 := by omega
        exact Rat.le_refl
      · exact Rat.le_trans (h1 i g3) (Rat.le_of_lt hc)
    · rw [if_neg hc]
      refine ⟨fun i g1 => ?_, i0, by omega, h3⟩
      rcases Nat.lt_or_ge m i with g3 | g3
      · obtain rfl : i = m + 1 := by omega
        exact Rat.not_lt.1 hc
      · exact h1 i g3

theorem Sup.means {S W : Nat → Rat} {n j : Nat} {c : Rat} (hW : AscW W n) (h : Sup S W n j c) : mmH S W n j j = c := by
  obtain ⟨s, e, h1, h2, h3, h4, h5⟩ := h
  obtain ⟨a1, i, a2, a3⟩ := mmH_is S W n j j
  apply Rat.le_antisymm
  · rw [a3]
    obtain ⟨b1, _⟩ := mmL_is S W i j (n - 1 - j)
    have b2 := b1 (e - 1) (by omega) (by omega)
    rw [show e - 1 + 1 = e by omega] at b2
    refine Rat.le_trans b2 ((mnA_le (hW.lt (by omega) h3)).2 ?_)
    have := h5 i (by omega)
    grind
  · refine Rat.le_trans ?_ (a1 s h1)
    obtain ⟨_, k, b1, b2, b3⟩ := mmL_is S W s j (n - 1 - j)
    rw [b3]
    exact (le_mnA (hW.lt (by omega) (by omega))).2 (h5 (k + 1) (by omega))

/-- by the hull: a point on it -/
def OnH (S W : Nat → Rat) (n i : Nat) : Prop := i = 0 ∨ ∃ c, ∀ t, t ≤ n → c * (W t - W i) ≤ S t - S i

theorem OnH.step {S W : Nat → Rat} {n i at' : Nat} {c : Rat} (hW : AscW W n) (h : OnH S W n i) (hi : i ≤ at') (ha : at' < n) (hc : ∀ k, i ≤ k → k < n → c ≤ mnA S W i (k + 1)) (he : c = mnA S W i (at' + 1)) :
    (∀ j, i ≤ j → j ≤ at' → Sup S W n j c) ∧ OnH S W n (at' + 1) := by
  have w := hW.lt (i := i) (j := at' + 1) (by omega) (by omega)
  have q : c * (W (at' + 1) - W i) = S (at' + 1) - S i := by rw [he]; exact mnA_mul w
  have all : ∀ t, t ≤ n → c * (W t - W i) ≤ S t - S i := by
    intro t ht
    rcases Nat.lt_or_ge i t with h1 | h1
    · have := (le_mnA (hW.lt h1 ht)).1 (by have := hc (t - 1) (by omega) (by omega); rwa [show t - 1 + 1 = t by omega] at this)
      exact this
    · rcases h with rfl | ⟨d, h⟩
      · obtain rfl : t = 0 := by omega
        grind
      · have h2 := h t ht
        have h3 := h (at' + 1) (by omega)
        have hd : d ≤ c := by rw [he]; exact (le_mnA w).2 h3
        have wt := hW.le h1 (by omega)
        have := mulR_ge (d := W t - W i) (by grind) hd
        grind
  refine ⟨fun j g1 g2 => ⟨i, at' + 1, g1, by omega, by omega, q.symm, all⟩, Or.inr ⟨c, fun t ht => ?_⟩⟩
  have := all t ht
  grind
/- sums of what is fitted -/

theorem fitB_ge {S W : Nat → Rat} {a : Nat} {r : List Nat} {e j : Nat} (h : a ≤ j) : fitB S W (a :: r) e j = mnA S W a e := by
  rw [show fitB S W (a :: r) e j = if a ≤ j then mnA S W a e else fitB S W r a j from rfl, if_pos h]

theorem fitB_lt {S W : Nat → Rat} {a : Nat} {r : List Nat} {e j : Nat} (h : j < a) : fitB S W (a :: r) e j = fitB S W r a j := by
  rw [show fitB S W (a :: r) e j = if a ≤ j then mnA S W a e else fitB S W r a j from rfl, if_neg (by omega)]

noncomputable def fitS (S W : Nat → Rat) (r : List Nat) (e t : Nat) : Rat := sumR (fun i => fitB S W r e i * (W (i + 1) - W i)) t

theorem fitS_lt {S W : Nat → Rat} {a : Nat} {r : List Nat} {e t : Nat} (h : t ≤ a) : fitS S W (a :: r) e t = fitS S W r a t :=
  sumR_congr fun i hi => by rw [fitB_lt (by omega)]

theorem fitS_ge {S W : Nat → Rat} {a : Nat} {r : List Nat} {e : Nat} : ∀ {t}, a ≤ t → fitS S W (a :: r) e t = fitS S W r a a + mnA S W a e * (W t - W a) := by
  intro t ht
  obtain ⟨d, rfl⟩ := Nat.exists_eq_add_of_le ht
  clear ht
  induction d with
  | zero => rw [Nat.add_zero, fitS_lt (Nat.le_refl a)]; grind
  | succ d ih =>
    have ht : a ≤ a + d := by omega
    rw [← Nat.add_assoc]
    revert ih ht
    generalize a + d = t
    intro ih ht
    rw [show fitS S W (a :: r) e (t + 1) = fitS S W (a :: r) e t + fitB S W (a :: r) e t * (W (t + 1) - W t) from rfl, ih, fitB_ge ht]; grind

theorem Bks.sums {S W : Nat → Rat} {n : Nat} (hW : AscW W n) : ∀ {r : List Nat} {e : Nat}, e ≤ n → Bks S W r e → (∀ t, t ≤ e → fitS S W r e t ≤ S t - S 0) ∧ fitS S W r e e = S e - S 0
  | [], e, _, h => by
    obtain rfl : e = 0 := h
    have : fitS S W [] 0 0 = 0 := rfl
    refine ⟨fun t ht => ?_, by rw [this]; grind⟩
    obtain rfl : t = 0 := by omega
    rw [this]; grind
  | a :: r, e, he, h => by
    obtain ⟨h1, h2, h3⟩ := h
    obtain ⟨i1, i2⟩ := Bks.sums hW (by omega) h3
    refine ⟨fun t ht => ?_, ?_⟩
    · rcases Nat.le_total t a with h4 | h4
      · rw [fitS_lt h4]; exact i1 t h4
      · rw [fitS_ge h4, i2]
        have := h2 t h4 ht; grind
    · rw [fitS_ge (by omega), i2]
      have := mnA_mul (S := S) (hW.lt h1 he); grind

theorem Bks.rises {S W : Nat → Rat} {n : Nat} (hW : AscW W n) : ∀ {r : List Nat} {e : Nat}, e ≤ n → Bks S W r e → Inc S W r e → ∀ j, j + 1 < e → fitB S W r e j ≤ fitB S W r e (j + 1) ∧ (fitB S W r e j = fitB S W r e (j + 1) ∨ fitS S W r e (j + 1) = S (j + 1) - S 0)
  | [], e, _, h, _, j, hj => by have : e = 0 := h; omega
  | a :: r, e, he, h, hi, j, hj => by
    have h0 := h.1
    rcases Nat.lt_or_ge j a with h1 | h1
    · rcases Nat.lt_or_ge (j + 1) a with h2 | h2
      · rw [fitB_lt h1, fitB_lt h2, fitS_lt (by omega)]
        refine Bks.rises hW (by omega) h.2.2 ?_ j h2
        match r, hi with
        | [], _ => trivial
        | b :: r, hi => exact hi.2
      · obtain rfl : a = j + 1 := by omega
        rw [fitB_lt h1, fitB_ge h2]
        refine ⟨?_, Or.inr ?_⟩
        · match r, h, hi with
          | [], h, hi => have : j + 1 = 0 := h.2.2; omega
          | b :: r, h, hi =>
            have := (Bks.sup hW (by omega) h.2.2 hi.2 j h1).2
            exact Rat.le_trans this (Rat.le_of_lt hi.1)
        · rw [fitS_lt (Nat.le_refl _)]
          exact (Bks.sums hW (by omega) h.2.2).2
    · rw [fitB_ge h1, fitB_ge (by omega)]
      exact ⟨Rat.le_refl, Or.inl rfl⟩

def Loads (xs ws : List Int) : Prop := (∀ w ∈ ws, 1 ≤ w ∧ w ≤ 5) ∧ Bd 30 xs ∧ xs.length = ws.length ∧ 1 ≤ xs.length ∧ xs.length ≤ 8

noncomputable instance (xs ws : List Int) : Decidable (Loads xs ws) := Classical.propDecidable _

def rS (xs ws : List Int) (t : Nat) : Rat := ((dotT xs ws t : Int) : Rat)

def rW (ws : List Int) (t : Nat) : Rat := ((sumI ws t : Int) : Rat)

theorem Loads.w {xs ws : List Int} (h : Loads xs ws) {i : Nat} (hi : i < xs.length) : 1 ≤ nth ws i ∧ nth ws i ≤ 5 := by
  have h1 : i < ws.length := by have := h.2.2.1; omega
  rw [nth_of h1]; exact h.1 _ (List.getElem_mem h1)

theorem Loads.x {xs ws : List Int} (h : Loads xs ws) (i : Nat) : -30 ≤ nth xs i ∧ nth xs i ≤ 30 := h.2.1.nth (by omega) i

theorem Loads.sums {xs ws : List Int} (h : Loads xs ws) {i : Nat} : ∀ {e}, i ≤ e → e ≤ xs.length →
    (((e - i : Nat) : Int) ≤ sumI ws e - sumI ws i ∧ sumI ws e - sumI ws i ≤ 5 * ((e - i : Nat) : Int)) ∧ (-(30 * (sumI ws e - sumI ws i)) ≤ dotT xs ws e - dotT xs ws i ∧ dotT xs ws e - dotT xs ws i ≤ 30 * (sumI ws e - sumI ws i))
  | 0, h1, _ => by obtain rfl : i = 0 := by omega
                   simp
  | e + 1, h1, h2 => by
    rcases Nat.lt_or_ge e i with h3 | h3
    · obtain rfl : i = e + 1 := by omega
      simp
    · have ih := h.sums (i := i) (e := e) h3 (by omega)
      have hw := h.w (i := e) (by omega)
      have hx := h.x e
      have m1 : nth xs e * nth ws e ≤ 30 * nth ws e := Int.mul_le_mul_of_nonneg_right hx.2 (by omega)
      have m2 : -30 * nth ws e ≤ nth xs e * nth ws e := Int.mul_le_mul_of_nonneg_right hx.1 (by omega)
      rw [show sumI ws (e + 1) = sumI ws e + nth ws e from rfl, show dotT xs ws (e + 1) = dotT xs ws e + nth xs e * nth ws e from rfl]
      generalize nth xs e * nth ws e = p at *
      omega

theorem Loads.pos {xs ws : List Int} (h : Loads xs ws) {i e : Nat} (h1 : i < e) (h2 : e ≤ xs.length) : 1 ≤ sumI ws e - sumI ws i ∧ sumI ws e - sumI ws i ≤ 40 := by
  have := (h.sums (i := i) (e := e) (by omega) h2).1
  have := h.2.2.2.2
  omega

theorem Loads.asc {xs ws : List Int} (h : Loads xs ws) : AscW (rW ws) xs.length := fun i hi => by
  have := h.pos (i := i) (e := i + 1) (by omega) hi
  exact Rat.intCast_lt_intCast.2 (by omega)

def mnR (xs ws : List Int) (i e : Nat) : Rat := ((dotT xs ws e - dotT xs ws i : Int) : Rat) / ((sumI ws e - sumI ws i : Int) : Rat)

theorem mnR_mnA (xs ws : List Int) (i e : Nat) : mnA (rS xs ws) (rW ws) i e = mnR xs ws i e := by
  unfold mnA mnR rS rW
  rw [Rat.intCast_sub, Rat.intCast_sub]

theorem Loads.fd {xs ws : List Int} (h : Loads xs ws) {i e : Nat} (h1 : i < e) (h2 : e ≤ xs.length) : FD (mnR xs ws i e) (sumI ws e - sumI ws i) (30 * (sumI ws e - sumI ws i)) :=
  FD.div (by have := (h.pos h1 h2).1; omega) (h.sums (by omega) h2).2

noncomputable def fiR (xs ws : List Int) (j : Nat) : Rat := fitN (rS xs ws) (rW ws) xs.length j

theorem fitB_is {S W : Nat → Rat} : ∀ {r : List Nat} {e j : Nat}, j < e → Bks S W r e → ∃ i u, i ≤ j ∧ j < u ∧ u ≤ e ∧ fitB S W r e j = mnA S W i u
  | [], e, j, h1, h2 => by have : e = 0 := h2; omega
  | a :: r, e, j, h1, h2 => by
    rcases Nat.lt_or_ge j a with h3 | h3
    · rw [fitB_lt h3]
      obtain ⟨i, u, g1, g2, g3, g4⟩ := fitB_is h3 h2.2.2
      exact ⟨i, u, g1, g2, by have := h2.1; omega, g4⟩
    · rw [fitB_ge h3]
      exact ⟨a, e, h3, h1, Nat.le_refl _, rfl⟩

theorem Loads.fit_is {xs ws : List Int} (h : Loads xs ws) {j : Nat} (hj : j < xs.length) : ∃ i u, i ≤ j ∧ j < u ∧ u ≤ xs.length ∧ fiR xs ws j = mnR xs ws i u := by
  obtain ⟨i, u, h1, h2, h3, h4⟩ := fitB_is hj (poS_ok (S := rS xs ws) h.asc (Nat.le_refl _)).1
  exact ⟨i, u, h1, h2, h3, by rw [← mnR_mnA]; exact h4⟩
/- whole multiples -/

def Dv (q : Rat) (D : Int) : Prop := 0 < D ∧ ∃ k : Int, q * (D : Rat) = (k : Rat)

theorem Dv.lift {q : Rat} {D m : Int} (h : Dv q D) (hm : 0 < m) : Dv q (D * m) := by
  obtain ⟨h1, k, h2⟩ := h
  exact ⟨Int.mul_pos h1 hm, k * m, by rw [Rat.intCast_mul, Rat.intCast_mul, ← Rat.mul_assoc, h2]⟩

theorem Dv.add {p q : Rat} {D : Int} (h : Dv p D) (h' : Dv q D) : Dv (p + q) D := by
  obtain ⟨h1, k, h2⟩ := h
  obtain ⟨_, l, h3⟩ := h'
  exact ⟨h1, k + l, by rw [Rat.intCast_add, ← h2, ← h3]; grind⟩

theorem Dv.mul {p q : Rat} {D E : Int} (h : Dv p D) (h' : Dv q E) : Dv (p * q) (D * E) := by
  obtain ⟨h1, k, h2⟩ := h
  obtain ⟨h4, l, h3⟩ := h'
  exact ⟨Int.mul_pos h1 h4, k * l, by rw [Rat.intCast_mul, Rat.intCast_mul, ← h2, ← h3]; grind⟩

theorem Dv.int (n : Int) : Dv (n : Rat) 1 := ⟨by omega, n, by simp⟩

theorem Dv.to {q : Rat} {D E : Int} (h : Dv q D) (e : D = E) : Dv q E := e ▸ h

theorem Dv.fd {q : Rat} {D M : Int} (h : Dv q D) (h1 : -(M : Rat) ≤ q) (h2 : q ≤ (M : Rat)) : FD q D (M * D) := by
  obtain ⟨h3, k, h4⟩ := h
  have hd : ((0 : Int) : Rat) ≤ ((D : Int) : Rat) := Rat.intCast_le_intCast.2 (Int.le_of_lt h3)
  refine ⟨h3, k, h4, ?_, ?_⟩
  · have := mulR_le hd h1
    rw [h4] at this
    refine Rat.intCast_le_intCast.1 ?_
    rw [Rat.intCast_neg, Rat.intCast_mul]; grind
  · have := mulR_le hd h2
    rw [h4] at this
    refine Rat.intCast_le_intCast.1 ?_
    rw [Rat.intCast_mul]; exact this
/- what is missed: squares, with weights -/

def stI : List Nat → List Int
  | [] => []
  | a :: r => stI r ++ [(a : Int)]

theorem stI_len : ∀ r : List Nat, (stI r).length = r.length
  | [] => rfl
  | a :: r => by rw [stI, List.length_append, stI_len r]; rfl

def blL (xs ws : List Int) : List Int := stI (poS (rS xs ws) (rW ws) xs.length)

theorem blk_at {S W : Nat → Rat} : ∀ {r : List Nat} {e : Nat}, Bks S W r e → ∀ i, i < r.length → ∃ s u : Nat, nth (stI r) i = (s : Int) ∧ (if i + 1 < r.length then nth (stI r) (i + 1) else (e : Int)) = (u : Int) ∧ s < u ∧ u ≤ e ∧ (∀ j, s ≤ j → j < u → fitB S W r e j = mnA S W s u) ∧ (i = 0 → s = 0) ∧ (i + 1 = r.length → u = e) ∧ (∀ t, s ≤ t → t ≤ u → mnA S W s u * (W t - W s) ≤ S t - S s)
  | [], e, _, i, hi => absurd hi (Nat.not_lt_zero _)
  | a :: r, e, h, i, hi => by
    have hl := stI_len r
    rcases Nat.lt_or_ge i r.length with h1 | h1
    · obtain ⟨s, u, g1, g2, g3, g4, g5, g6, g7, g8⟩ := blk_at h.2.2 i h1
      have h0 := h.1
      refine ⟨s, u, by rw [stI, nth_app_lt (by omega), g1], ?_, g3, by omega, fun j j1 j2 => by rw [fitB_lt (by omega), g5 j j1 j2], g6, fun hh => ?_, g8⟩
      · rw [if_pos (by simp only [List.length_cons]; omega), ← g2]
        rcases Nat.lt_or_ge (i + 1) r.length with h2 | h2
        · rw [if_pos h2, stI, nth_app_lt (by omega)]
        · rw [if_neg (by omega), stI, show i + 1 = (stI r).length by omega, nth_app_eq]
      · simp only [List.length_cons] at hh; omega
    · have : i = r.length := by simp only [List.length_cons] at hi; omega
      subst this
      refine ⟨a, e, by rw [stI, ← hl, nth_app_eq], by rw [if_neg (by simp only [List.length_cons]; omega)], h.1, Nat.le_refl _, fun j j1 j2 => fitB_ge j1, fun hh => ?_, fun _ => rfl, h.2.1⟩
      have : r = [] := List.length_eq_zero_iff.1 hh
      subst this
      exact h.2.2

theorem Loads.blk {xs ws : List Int} (h : Loads xs ws) : Bks (rS xs ws) (rW ws) (poS (rS xs ws) (rW ws) xs.length) xs.length ∧ Inc (rS xs ws) (rW ws) (poS (rS xs ws) (rW ws) xs.length) xs.length := poS_ok h.asc (Nat.le_refl _)

theorem Loads.bl_len {xs ws : List Int} (h : Loads xs ws) : 1 ≤ (blL xs ws).length ∧ (blL xs ws).length ≤ xs.length := by
  have h1 := h.blk.1
  have h2 := h1.len
  obtain ⟨a, r, e⟩ := poS_pos (S := rS xs ws) h.asc (Nat.le_refl _) (by have := h.2.2.2.1; omega)
  rw [blL, stI_len]
  rw [e] at h2 ⊢
  exact ⟨by simp, h2⟩

theorem Loads.fit_up {xs ws : List Int} (h : Loads xs ws) {j : Nat} (hj : j + 1 < xs.length) : fiR xs ws j ≤ fiR xs ws (j + 1) := (Bks.rises h.asc (Nat.le_refl _) h.blk.1 h.blk.2 j hj).1

theorem Loads.back {xs ws : List Int} (h : Loads xs ws) : Loads xs.reverse ws.reverse := by
  obtain ⟨h1, h2, h3, h4, h5⟩ := h
  exact ⟨fun w hw => h1 w (List.mem_reverse.1 hw), fun x hx => h2 x (List.mem_reverse.1 hx), by simp [h3], by simpa using h4, by simpa using h5⟩

theorem specValidLoads_ok {H : Heap} {a b : AV} {xs ws : List Int} (ha : Ints H a xs) (hb : Ints H b ws) (hl : xs.length ≤ 1000000000) (hl' : ws.length ≤ 1000000000) :
    ACalls Try.prog fn_spec_validLoads [a, b] H fun r H' => r = .bool (decide (Loads xs ws)) ∧ H' = H := by
  refine ACalls.val ?_ rfl
  refine code_spec_validLoads.go [.roI a xs.length xs, .roI b ws.length ws] ⟨⟨rfl, ha⟩, ⟨rfl, hb⟩, trivial⟩ (by simp) ?_
  unfold mc_spec_validLoads
  have no : (Loads xs ws → False) → decide (Loads xs ws) = false := fun h => decide_eq_false h
  (repeat (first | refine gst (hk := ?_) | (show GO _ _ _ _ _ (⟨some _, none, .call _ _⟩ :: _) _; first | (show GO _ _ _ _ _ (⟨some _, none, .call fn_spec_inRange _⟩ :: _) _; refine go_inRange (hk := ?_); try intro u)) | (show GO _ _ _ _ _ (⟨some _, none, _⟩ :: _) _; first | refine go_op (hk := ?_) | (refine go_nw (hk := ?_); intro u; try simp only [llc, lln, lna, lza]) | (refine go_np (hk := ?_); intro id)) | (show GO _ _ _ _ _ (⟨none, none, _⟩ :: _) _; refine go_st (hk := ?_)) | (show GO _ _ _ _ _ (⟨_, some _, _⟩ :: _) _; first | refine go_in (hk := ?_) | refine go_out (hk := ?_) | refine go_void (hk := ?_)) | (show GK _ _ _ _ (blockK _ _ _); refine gk_past rfl ?_) | (show GC _ _ _ _ _ (.cond _ _ _) _; first | refine gc_yes (h1 := ?_) | refine gc_no (h1 := ?_))))
  refine gc_loop (γ := Nat) (fun i => [(0, a), (1, b), (5, .int .i64 (i : Int))]) (fun _ => [.roI a xs.length xs, .roI b ws.length ws]) (fun i => i ≤ ws.length ∧ ∀ j, j < i → 1 ≤ nth ws j ∧ nth ws j ≤ 5) (fun i => ws.length - i) 0 ⟨Nat.zero_le _, fun k hk => by omega⟩ (hb := ?_)
  rintro i ⟨hi, hp⟩ I ν m hk
  (repeat (first | refine gst (hk := ?_) | (show GO _ _ _ _ _ (⟨some _, none, .call _ _⟩ :: _) _; first | (show GO _ _ _ _ _ (⟨some _, none, .call fn_spec_inRange _⟩ :: _) _; refine go_inRange (hk := ?_); try intro u)) | (show GO _ _ _ _ _ (⟨some _, none, _⟩ :: _) _; first | refine go_op (hk := ?_) | (refine go_nw (hk := ?_); intro u; try simp only [llc, lln, lna, lza]) | (refine go_np (hk := ?_); intro id)) | (show GO _ _ _ _ _ (⟨none, none, _⟩ :: _) _; refine go_st (hk := ?_)) | (show GO _ _ _ _ _ (⟨_, some _, _⟩ :: _) _; first | refine go_in (hk := ?_) | refine go_out (hk := ?_) | refine go_void (hk := ?_)) | (show GK _ _ _ _ (blockK _ _ _); refine gk_past rfl ?_) | (show GC _ _ _ _ _ (.cond _ _ _) _; first | refine gc_yes (h1 := ?_) | refine gc_no (h1 := ?_))))
  refine gc_cond rfl (fun h => ?_) (fun h => ?_)
  · (repeat (first | refine gst (hk := ?_) | (show GO _ _ _ _ _ (⟨some _, none, .call _ _⟩ :: _) _; first | (show GO _ _ _ _ _ (⟨some _, none, .call fn_spec_inRange _⟩ :: _) _; refine go_inRange (hk := ?_); try intro u)) | (show GO _ _ _ _ _ (⟨some _, none, _⟩ :: _) _; first | refine go_op (hk := ?_) | (refine go_nw (hk := ?_); intro u; try simp only [llc, lln, lna, lza]) | (refine go_np (hk := ?_); intro id)) | (show GO _ _ _ _ _ (⟨none, none, _⟩ :: _) _; refine go_st (hk := ?_)) | (show GO _ _ _ _ _ (⟨_, some _, _⟩ :: _) _; first | refine go_in (hk := ?_) | refine go_out (hk := ?_) | refine go_void (hk := ?_)) | (show GK _ _ _ _ (blockK _ _ _); refine gk_past rfl ?_) | (show GC _ _ _ _ _ (.cond _ _ _) _; first | refine gc_yes (h1 := ?_) | refine gc_no (h1 := ?_))))
    refine gc_cond rfl (fun h2 => ?_) (fun h2 => ?_)
    · (repeat (first | refine gst (hk := ?_) | (show GO _ _ _ _ _ (⟨some _, none, .call _ _⟩ :: _) _; first | (show GO _ _ _ _ _ (⟨some _, none, .call fn_spec_inRange _⟩ :: _) _; refine go_inRange (hk := ?_); try intro u)) | (show GO _ _ _ _ _ (⟨some _, none, _⟩ :: _) _; first | refine go_op (hk := ?_) | (refine go_nw (hk := ?_); intro u; try simp only [llc, lln, lna, lza]) | (refine go_np (hk := ?_); intro id)) | (show GO _ _ _ _ _ (⟨none, none, _⟩ :: _) _; refine go_st (hk := ?_)) | (show GO _ _ _ _ _ (⟨_, some _, _⟩ :: _) _; first | refine go_in (hk := ?_) | refine go_out (hk := ?_) | refine go_void (hk := ?_)) | (show GK _ _ _ _ (blockK _ _ _); refine gk_past rfl ?_) | (show GC _ _ _ _ _ (.cond _ _ _) _; first | refine gc_yes (h1 := ?_) | refine gc_no (h1 := ?_))))
      exact gk_ret rfl fun H' hH => ⟨by rw [no fun hL => h2 (hL.1 _ (nth_mem (by omega)))]; rfl, hH.leE⟩
    · (repeat (first | refine gst (hk := ?_) | (show GO _ _ _ _ _ (⟨some _, none, .call _ _⟩ :: _) _; first | (show GO _ _ _ _ _ (⟨some _, none, .call fn_spec_inRange _⟩ :: _) _; refine go_inRange (hk := ?_); try intro u)) | (show GO _ _ _ _ _ (⟨some _, none, _⟩ :: _) _; first | refine go_op (hk := ?_) | (refine go_nw (hk := ?_); intro u; try simp only [llc, lln, lna, lza]) | (refine go_np (hk := ?_); intro id)) | (show GO _ _ _ _ _ (⟨none, none, _⟩ :: _) _; refine go_st (hk := ?_)) | (show GO _ _ _ _ _ (⟨_, some _, _⟩ :: _) _; first | refine go_in (hk := ?_) | refine go_out (hk := ?_) | refine go_void (hk := ?_)) | (show GK _ _ _ _ (blockK _ _ _); refine gk_past rfl ?_) | (show GC _ _ _ _ _ (.cond _ _ _) _; first | refine gc_yes (h1 := ?_) | refine gc_no (h1 := ?_))))
      refine gk_next (hk (i + 1) ⟨by omega, fun j hj => ?_⟩ (by omega))
      rcases Nat.lt_or_ge j i with h4 | h4
      · exact hp j h4
      · rw [show j = i by omega]; exact Decidable.not_not.1 h2
  · have : i = ws.length := by omega
    subst this
    (repeat (first | refine gst (hk := ?_) | (show GO _ _ _ _ _ (⟨some _, none, .call _ _⟩ :: _) _; first | (show GO _ _ _ _ _ (⟨some _, none, .call fn_spec_inRange _⟩ :: _) _; refine go_inRange (hk := ?_); try intro u)) | (show GO _ _ _ _ _ (⟨some _, none, _⟩ :: _) _; first | refine go_op (hk := ?_) | (refine go_nw (hk := ?_); intro u; try simp only [llc, lln, lna, lza]) | (refine go_np (hk := ?_); intro id)) | (show GO _ _ _ _ _ (⟨none, none, _⟩ :: _) _; refine go_st (hk := ?_)) | (show GO _ _ _ _ _ (⟨_, some _, _⟩ :: _) _; first | refine go_in (hk := ?_) | refine go_out (hk := ?_) | refine go_void (hk := ?_)) | (show GK _ _ _ _ (blockK _ _ _); refine gk_past rfl ?_) | (show GC _ _ _ _ _ (.cond _ _ _) _; first | refine gc_yes (h1 := ?_) | refine gc_no (h1 := ?_))))
    refine gc_loop (γ := Nat) (fun i => [(0, a), (1, b), (6, .int .i64 (i : Int))]) (fun _ => [.roI a xs.length xs, .roI b ws.length ws]) (fun i => i ≤ xs.length ∧ ∀ j, j < i → -30 ≤ nth xs j ∧ nth xs j ≤ 30) (fun i => xs.length - i) 0 ⟨Nat.zero_le _, fun k hk => by omega⟩ (hb := ?_)
    rintro i ⟨hi2, hp2⟩ I2 ν2 m2 hk2
    (repeat (first | refine gst (hk := ?_) | (show GO _ _ _ _ _ (⟨some _, none, .call _ _⟩ :: _) _; first | (show GO _ _ _ _ _ (⟨some _, none, .call fn_spec_inRange _⟩ :: _) _; refine go_inRange (hk := ?_); try intro u)) | (show GO _ _ _ _ _ (⟨some _, none, _⟩ :: _) _; first | refine go_op (hk := ?_) | (refine go_nw (hk := ?_); intro u; try simp only [llc, lln, lna, lza]) | (refine go_np (hk := ?_); intro id)) | (show GO _ _ _ _ _ (⟨none, none, _⟩ :: _) _; refine go_st (hk := ?_)) | (show GO _ _ _ _ _ (⟨_, some _, _⟩ :: _) _; first | refine go_in (hk := ?_) | refine go_out (hk := ?_) | refine go_void (hk := ?_)) | (show GK _ _ _ _ (blockK _ _ _); refine gk_past rfl ?_) | (show GC _ _ _ _ _ (.cond _ _ _) _; first | refine gc_yes (h1 := ?_) | refine gc_no (h1 := ?_))))
    refine gc_cond rfl (fun h2 => ?_) (fun h2 => ?_)
    · (repeat (first | refine gst (hk := ?_) | (show GO _ _ _ _ _ (⟨some _, none, .call _ _⟩ :: _) _; first | (show GO _ _ _ _ _ (⟨some _, none, .call fn_spec_inRange _⟩ :: _) _; refine go_inRange (hk := ?_); try intro u)) | (show GO _ _ _ _ _ (⟨some _, none, _⟩ :: _) _; first | refine go_op (hk := ?_) | (refine go_nw (hk := ?_); intro u; try simp only [llc, lln, lna, lza]) | (refine go_np (hk := ?_); intro id)) | (show GO _ _ _ _ _ (⟨none, none, _⟩ :: _) _; refine go_st (hk := ?_)) | (show GO _ _ _ _ _ (⟨_, some _, _⟩ :: _) _; first | refine go_in (hk := ?_) | refine go_out (hk := ?_) | refine go_void (hk := ?_)) | (show GK _ _ _ _ (blockK _ _ _); refine gk_past rfl ?_) | (show GC _ _ _ _ _ (.cond _ _ _) _; first | refine gc_yes (h1 := ?_) | refine gc_no (h1 := ?_))))
      refine gc_cond rfl (fun h3 => ?_) (fun h3 => ?_)
      · (repeat (first | refine gst (hk := ?_) | (show GO _ _ _ _ _ (⟨some _, none, .call _ _⟩ :: _) _; first | (show GO _ _ _ _ _ (⟨some _, none, .call fn_spec_inRange _⟩ :: _) _; refine go_inRange (hk := ?_); try intro u)) | (show GO _ _ _ _ _ (⟨some _, none, _⟩ :: _) _; first | refine go_op (hk := ?_) | (refine go_nw (hk := ?_); intro u; try simp only [llc, lln, lna, lza]) | (refine go_np (hk := ?_); intro id)) | (show GO _ _ _ _ _ (⟨none, none, _⟩ :: _) _; refine go_st (hk := ?_)) | (show GO _ _ _ _ _ (⟨_, some _, _⟩ :: _) _; first | refine go_in (hk := ?_) | refine go_out (hk := ?_) | refine go_void (hk := ?_)) | (show GK _ _ _ _ (blockK _ _ _); refine gk_past rfl ?_) | (show GC _ _ _ _ _ (.cond _ _ _) _; first | refine gc_yes (h1 := ?_) | refine gc_no (h1 := ?_))))
        exact gk_ret rfl fun H' hH => ⟨by rw [no fun hL => h3 (hL.2.1 _ (nth_mem (by omega)))]; rfl, hH.leE⟩
      · (repeat (first | refine gst (hk := ?_) | (show GO _ _ _ _ _ (⟨some _, none, .call _ _⟩ :: _) _; first | (show GO _ _ _ _ _ (⟨some _, none, .call fn_spec_inRange _⟩ :: _) _; refine go_inRange (hk := ?_); try intro u)) | (show GO _ _ _ _ _ (⟨some _, none, _⟩ :: _) _; first | refine go_op (hk := ?_) | (refine go_nw (hk := ?_); intro u; try simp only [llc, lln, lna, lza]) | (refine go_np (hk := ?_); intro id)) | (show GO _ _ _ _ _ (⟨none, none, _⟩ :: _) _; refine go_st (hk := ?_)) | (show GO _ _ _ _ _ (⟨_, some _, _⟩ :: _) _; first | refine go_in (hk := ?_) | refine go_out (hk := ?_) | refine go_void (hk := ?_)) | (show GK _ _ _ _ (blockK _ _ _); refine gk_past rfl ?_) | (show GC _ _ _ _ _ (.cond _ _ _) _; first | refine gc_yes (h1 := ?_) | refine gc_no (h1 := ?_))))
        refine gk_next (hk2 (i + 1) ⟨by omega, fun j hj => ?_⟩ (by omega))
        rcases Nat.lt_or_ge j i with h4 | h4
        · exact hp2 j h4
        · rw [show j = i by omega]; exact Decidable.not_not.1 h3
    · have : i = xs.length := by omega
      subst this
      have h5 : ∀ w ∈ ws, 1 ≤ w ∧ w ≤ 5 := fun w hw => by
        obtain ⟨m, hm, rfl⟩ := nth_ex hw
        exact hp m hm
      have h6 : Bd 30 xs := fun x hx => by
        obtain ⟨m, hm, rfl⟩ := nth_ex hx
        exact hp2 m hm
      (repeat (first | refine gst (hk := ?_) | (show GO _ _ _ _ _ (⟨some _, none, .call _ _⟩ :: _) _; first | (show GO _ _ _ _ _ (⟨some _, none, .call fn_spec_inRange _⟩ :: _) _; refine go_inRange (hk := ?_); try intro u)) | (show GO _ _ _ _ _ (⟨some _, none, _⟩ :: _) _; first | refine go_op (hk := ?_) | (refine go_nw (hk := ?_); intro u; try simp only [llc, lln, lna, lza]) | (refine go_np (hk := ?_); intro id)) | (show GO _ _ _ _ _ (⟨none, none, _⟩ :: _) _; refine go_st (hk := ?_)) | (show GO _ _ _ _ _ (⟨_, some _, _⟩ :: _) _; first | refine go_in (hk := ?_) | refine go_out (hk := ?_) | refine go_void (hk := ?_)) | (show GK _ _ _ _ (blockK _ _ _); refine gk_past rfl ?_) | (show GC _ _ _ _ _ (.cond _ _ _) _; first | refine gc_yes (h1 := ?_) | refine gc_no (h1 := ?_))))
      refine go_split 36 rfl (fun h3 => ?_) (fun h3 => ?_)
      · (repeat (first | refine gst (hk := ?_) | (show GO _ _ _ _ _ (⟨some _, none, .call _ _⟩ :: _) _; first | (show GO _ _ _ _ _ (⟨some _, none, .call fn_spec_inRange _⟩ :: _) _; refine go_inRange (hk := ?_); try intro u)) | (show GO _ _ _ _ _ (⟨some _, none, _⟩ :: _) _; first | refine go_op (hk := ?_) | (refine go_nw (hk := ?_); intro u; try simp only [llc, lln, lna, lza]) | (refine go_np (hk := ?_); intro id)) | (show GO _ _ _ _ _ (⟨none, none, _⟩ :: _) _; refine go_st (hk := ?_)) | (show GO _ _ _ _ _ (⟨_, some _, _⟩ :: _) _; first | refine go_in (hk := ?_) | refine go_out (hk := ?_) | refine go_void (hk := ?_)) | (show GK _ _ _ _ (blockK _ _ _); refine gk_past rfl ?_) | (show GC _ _ _ _ _ (.cond _ _ _) _; first | refine gc_yes (h1 := ?_) | refine gc_no (h1 := ?_))))
        exact gk_ret rfl fun H' hH => ⟨by
          simp only [tupleOf]; congr 1
          exact decide_eq_decide.2 ⟨fun h7 => ⟨h5, h6, by omega, by omega, by omega⟩, fun h7 => ⟨by have := h7.2.2.2; omega, by have := h7.2.2.2; omega⟩⟩, hH.leE⟩
      · (repeat (first | refine gst (hk := ?_) | (show GO _ _ _ _ _ (⟨some _, none, .call _ _⟩ :: _) _; first | (show GO _ _ _ _ _ (⟨some _, none, .call fn_spec_inRange _⟩ :: _) _; refine go_inRange (hk := ?_); try intro u)) | (show GO _ _ _ _ _ (⟨some _, none, _⟩ :: _) _; first | refine go_op (hk := ?_) | (refine go_nw (hk := ?_); intro u; try simp only [llc, lln, lna, lza]) | (refine go_np (hk := ?_); intro id)) | (show GO _ _ _ _ _ (⟨none, none, _⟩ :: _) _; refine go_st (hk := ?_)) | (show GO _ _ _ _ _ (⟨_, some _, _⟩ :: _) _; first | refine go_in (hk := ?_) | refine go_out (hk := ?_) | refine go_void (hk := ?_)) | (show GK _ _ _ _ (blockK _ _ _); refine gk_past rfl ?_) | (show GC _ _ _ _ _ (.cond _ _ _) _; first | refine gc_yes (h1 := ?_) | refine gc_no (h1 := ?_))))
        exact gk_ret rfl fun H' hH => ⟨by
          simp only [tupleOf]; congr 1
          exact (no fun h7 => h3 (by have := h7.2.2.1; omega)).symm, hH.leE⟩

theorem Loads.fits {xs ws : List Int} (h : Loads xs ws) {i e i' e' : Nat} (h1 : i < e) (h2 : e ≤ xs.length) (h1' : i' < e') (h2' : e' ≤ xs.length) : FitA (mnR xs ws i e) (mnR xs ws i' e') := by
  have p := h.pos h1 h2
  have p' := h.pos h1' h2'
  have f := h.fd h1 h2
  have f' := h.fd h1' h2'
  generalize sumI ws e - sumI ws i = D at *
  generalize sumI ws e' - sumI ws i' = D' at *
  have m : D * D' ≤ 40 * 40 := Int.mul_le_mul p.2 p'.2 (by omega) (by omega)
  refine fitA_of f f' ?_ ?_ (by omega)
  · rw [Int.mul_assoc]; omega
  · rw [Int.mul_assoc, Int.mul_comm D' D]; omega

theorem specMean_ok {H : Heap} {a b : AV} {xs ws : List Int} {kI : Int} {i e : Nat} (ha : Ints H a xs) (hb : Ints H b ws) (hL : Loads xs ws) (h1 : i < e) (h2 : e ≤ xs.length) (hk : kI = (e : Int) - 1) :
    ACalls Try.prog fn_spec_mean [a, b, .int .i64 (i : Int), .int .i64 kI] H fun r H' => r = frV (mnR xs ws i e) ∧ H' = H := by
  refine ACalls.val ?_ rfl
  have hl := hL.2.2.1
  have hn := hL.2.2.2.2
  refine code_spec_mean.go [.roI a xs.length xs, .roI b ws.length ws] ⟨⟨rfl, ha⟩, ⟨rfl, hb⟩, trivial⟩ (by simp) ?_
  unfold mc_spec_mean
  (repeat (first | refine gst (hk := ?_) | (with_reducible refine gc_drq ?_; intro _) | (show GO _ _ _ _ _ (⟨some _, none, _⟩ :: _) _; first | refine go_op (hk := ?_) | (refine go_nw (hk := ?_); intro u; try simp only [llc, lln, lna, lza]) | (refine go_np (hk := ?_); intro id)) | (show GQ _ _ _ _ _ _ _ (⟨some _, none, _⟩ :: _) _; first | refine gq_op (hk := ?_) | (refine gq_nw (hk := ?_); intro u; try simp only [llc, lln, lna, lza])) | (show GO _ _ _ _ _ (⟨none, none, _⟩ :: _) _; refine go_st (hk := ?_)) | (show GO _ _ _ _ _ (⟨_, some _, _⟩ :: _) _; first | refine go_in (hk := ?_) | refine go_out (hk := ?_) | refine go_void (hk := ?_)) | (show GQ _ _ _ _ _ _ _ (⟨_, some _, _⟩ :: _) _; first | refine gq_in (hk := ?_) | refine gq_out (hk := ?_) | refine gq_void (hk := ?_)) | (show GK _ _ _ _ (blockK _ _ _); refine gk_past rfl ?_) | (show GC _ _ _ _ _ (.cond _ _ _) _; first | refine gc_yes (h1 := ?_) | refine gc_no (h1 := ?_))))
  revert id; intro i8
  refine gc_loop (γ := Nat) (fun d => [(0, a), (1, b), (3, .int .i64 kI), (8, .ptr i8 0), (9, .int .i64 (dotT xs ws (i + d) - dotT xs ws i)), (10, .int .i64 (sumI ws (i + d) - sumI ws i)), (11, .int .i64 ((i + d : Nat) : Int))]) (fun _ => [cel0 i8, .roI a xs.length xs, .roI b ws.length ws]) (fun d => i + d ≤ e) (fun d => e - (i + d)) 0 (by omega) (hE := by rw [Nat.add_zero, Int.sub_self, Int.sub_self]; (repeat (refine Cov.cons (by exact rfl) ?_)); exact Cov.nil) (hb := ?_)
  intro d hd I ν m hk2
  have hs := hL.sums (i := i) (e := i + d) (by omega) (by omega)
  (repeat (first | refine gst (hk := ?_) | (with_reducible refine gc_drq ?_; intro _) | (show GO _ _ _ _ _ (⟨some _, none, _⟩ :: _) _; first | refine go_op (hk := ?_) | (refine go_nw (hk := ?_); intro u; try simp only [llc, lln, lna, lza]) | (refine go_np (hk := ?_); intro id)) | (show GQ _ _ _ _ _ _ _ (⟨some _, none, _⟩ :: _) _; first | refine gq_op (hk := ?_) | (refine gq_nw (hk := ?_); intro u; try simp only [llc, lln, lna, lza])) | (show GO _ _ _ _ _ (⟨none, none, _⟩ :: _) _; refine go_st (hk := ?_)) | (show GO _ _ _ _ _ (⟨_, some _, _⟩ :: _) _; first | refine go_in (hk := ?_) | refine go_out (hk := ?_) | refine go_void (hk := ?_)) | (show GQ _ _ _ _ _ _ _ (⟨_, some _, _⟩ :: _) _; first | refine gq_in (hk := ?_) | refine gq_out (hk := ?_) | refine gq_void (hk := ?_)) | (show GK _ _ _ _ (blockK _ _ _); refine gk_past rfl ?_) | (show GC _ _ _ _ _ (.cond _ _ _) _; first | refine gc_yes (h1 := ?_) | refine gc_no (h1 := ?_))))
  refine gc_cond rfl (fun h => ?_) (fun h => ?_)
  · have hw := hL.w (i := i + d) (by omega)
    have hx := hL.x (i + d)
    have m1 : nth xs (i + d) * nth ws (i + d) ≤ 30 * nth ws (i + d) := Int.mul_le_mul_of_nonneg_right hx.2 (by omega)
    have m2 : -30 * nth ws (i + d) ≤ nth xs (i + d) * nth ws (i + d) := Int.mul_le_mul_of_nonneg_right hx.1 (by omega)
    have hk3 := hk2 (d + 1) (by omega) (by omega)
    rw [show dotT xs ws (i + (d + 1)) = dotT xs ws (i + d) + nth xs (i + d) * nth ws (i + d) from rfl, show sumI ws (i + (d + 1)) = sumI ws (i + d) + nth ws (i + d) from rfl] at hk3
    generalize hP : nth xs (i + d) * nth ws (i + d) = P at *
    (repeat (first | refine gst (hk := ?_) | (with_reducible refine gc_drq ?_; intro _) | (show GO _ _ _ _ _ (⟨some _, none, _⟩ :: _) _; first | refine go_op (hk := ?_) | (refine go_nw (hk := ?_); intro u; try simp only [llc, lln, lna, lza]) | (refine go_np (hk := ?_); intro id)) | (show GQ _ _ _ _ _ _ _ (⟨some _, none, _⟩ :: _) _; first | refine gq_op (hk := ?_) | (refine gq_nw (hk := ?_); intro u; try simp only [llc, lln, lna, lza])) | (show GO _ _ _ _ _ (⟨none, none, _⟩ :: _) _; refine go_st (hk := ?_)) | (show GO _ _ _ _ _ (⟨_, some _, _⟩ :: _) _; first | refine go_in (hk := ?_) | refine go_out (hk := ?_) | refine go_void (hk := ?_)) | (show GQ _ _ _ _ _ _ _ (⟨_, some _, _⟩ :: _) _; first | refine gq_in (hk := ?_) | refine gq_out (hk := ?_) | refine gq_void (hk := ?_)) | (show GK _ _ _ _ (blockK _ _ _); refine gk_past rfl ?_) | (show GC _ _ _ _ _ (.cond _ _ _) _; first | refine gc_yes (h1 := ?_) | refine gc_no (h1 := ?_))))
    rw [hP]
    (repeat (first | refine gst (hk := ?_) | (with_reducible refine gc_drq ?_; intro _) | (show GO _ _ _ _ _ (⟨some _, none, _⟩ :: _) _; first | refine go_op (hk := ?_) | (refine go_nw (hk := ?_); intro u; try simp only [llc, lln, lna, lza]) | (refine go_np (hk := ?_); intro id)) | (show GQ _ _ _ _ _ _ _ (⟨some _, none, _⟩ :: _) _; first | refine gq_op (hk := ?_) | (refine gq_nw (hk := ?_); intro u; try simp only [llc, lln, lna, lza])) | (show GO _ _ _ _ _ (⟨none, none, _⟩ :: _) _; refine go_st (hk := ?_)) | (show GO _ _ _ _ _ (⟨_, some _, _⟩ :: _) _; first | refine go_in (hk := ?_) | refine go_out (hk := ?_) | refine go_void (hk := ?_)) | (show GQ _ _ _ _ _ _ _ (⟨_, some _, _⟩ :: _) _; first | refine gq_in (hk := ?_) | refine gq_out (hk := ?_) | refine gq_void (hk := ?_)) | (show GK _ _ _ _ (blockK _ _ _); refine gk_past rfl ?_) | (show GC _ _ _ _ _ (.cond _ _ _) _; first | refine gc_yes (h1 := ?_) | refine gc_no (h1 := ?_))))
    exact gk_next hk3
  · obtain rfl : i + d = e := by omega
    (repeat (first | refine gst (hk := ?_) | (with_reducible refine gc_drq ?_; intro _) | (show GO _ _ _ _ _ (⟨some _, none, _⟩ :: _) _; first | refine go_op (hk := ?_) | (refine go_nw (hk := ?_); intro u; try simp only [llc, lln, lna, lza]) | (refine go_np (hk := ?_); intro id)) | (show GQ _ _ _ _ _ _ _ (⟨some _, none, _⟩ :: _) _; first | refine gq_op (hk := ?_) | (refine gq_nw (hk := ?_); intro u; try simp only [llc, lln, lna, lza])) | (show GO _ _ _ _ _ (⟨none, none, _⟩ :: _) _; refine go_st (hk := ?_)) | (show GO _ _ _ _ _ (⟨_, some _, _⟩ :: _) _; first | refine go_in (hk := ?_) | refine go_out (hk := ?_) | refine go_void (hk := ?_)) | (show GQ _ _ _ _ _ _ _ (⟨_, some _, _⟩ :: _) _; first | refine gq_in (hk := ?_) | refine gq_out (hk := ?_) | refine gq_void (hk := ?_)) | (show GK _ _ _ _ (blockK _ _ _); refine gk_past rfl ?_) | (show GC _ _ _ _ _ (.cond _ _ _) _; first | refine gc_yes (h1 := ?_) | refine gc_no (h1 := ?_))))
    refine go_callp rfl code_spec_frac.callable (fun H hH => frac_ok (by omega) (by omega) (by omega)) ?_
    (repeat (first | refine gst (hk := ?_) | (with_reducible refine gc_drq ?_; intro _) | (show GO _ _ _ _ _ (⟨some _, none, _⟩ :: _) _; first | refine go_op (hk := ?_) | (refine go_nw (hk := ?_); intro u; try simp only [llc, lln, lna, lza]) | (refine go_np (hk := ?_); intro id)) | (show GQ _ _ _ _ _ _ _ (⟨some _, none, _⟩ :: _) _; first | refine gq_op (hk := ?_) | (refine gq_nw (hk := ?_); intro u; try simp only [llc, lln, lna, lza])) | (show GO _ _ _ _ _ (⟨none, none, _⟩ :: _) _; refine go_st (hk := ?_)) | (show GO _ _ _ _ _ (⟨_, some _, _⟩ :: _) _; first | refine go_in (hk := ?_) | refine go_out (hk := ?_) | refine go_void (hk := ?_)) | (show GQ _ _ _ _ _ _ _ (⟨_, some _, _⟩ :: _) _; first | refine gq_in (hk := ?_) | refine gq_out (hk := ?_) | refine gq_void (hk := ?_)) | (show GK _ _ _ _ (blockK _ _ _); refine gk_past rfl ?_) | (show GC _ _ _ _ _ (.cond _ _ _) _; first | refine gc_yes (h1 := ?_) | refine gc_no (h1 := ?_))))
    exact gk_rets (rvs_c rfl (by exact Sel.auto) rfl rfl rvs_nil) fun H' hH => ⟨rfl, hH.leE⟩

theorem dopsC_mono {P : Program} {Qt : FuncId → List AV → Option AV} {base : Nat} {C C' : List (List Nat × List Nat) → Prop} {K : St → Prop} {prs : List (Nat × Nat)} (hC : ∀ acc, C acc → C' acc) : ∀ {l : List MI} {k : Nat} {s : St} {acc : List (List Nat × List Nat)}, dopsC P Qt base k l s acc prs C K → dopsC P Qt base k l s acc prs C' K
  | [], k, s, acc, h => ⟨⟨h.1.1, hC acc h.1.2⟩, h.2⟩
  | m :: r, k, s, acc, h => by
    simp only [dopsC] at h ⊢
    split at h
    · exact dopsC_mono hC h
    · exact h.elim

theorem gc_drw4n {P : Program} {A : Heap} {X : List Nat} {E : List (Nat × AV)} {S : Sig} {Q : Exit → St → Prop} {prs : List (Nat × Nat)} {l : List MI} (Qt : FuncId → List AV → Option AV) (hQ : ∀ H0 H, SOk A X S H0.size H0 → (∀ id, id < H0.size → H.get id = H0.get id) → QtOk P Qt H)
    (h : ∀ H0, SOk A X S H0.size H0 → GD4 P Qt H0.size 0 A X E S [] prs l (fun acc => ∀ f ∈ acc, ∀ id ∈ f.2, H0.size ≤ id) (Q .normal)) : GC P A X E S (.drw l prs) Q :=
  gc_drw4 Qt fun H0 hH0 => ⟨fun s m h1 h2 h3 => dopsC_mono (fun acc ha H hH => hQ H0 H hH0 fun id hid => hH id fun f hf h4 => absurd (ha f hf id h4) (by omega)) ((h H0 hH0).g s m h1 h2 h3)⟩

theorem pairs_on {fs : List (List Nat × List Nat)} {i j k base : Nat} {fi : List Nat} {r : List (Nat × Nat)} (hi : fs[i]? = some (fi, [])) (hj : fs[j]? = some ([], [base + k])) (h : ∀ id ∈ fi, id < base) (hr : pairsOk fs r) : pairsOk fs ((i, j) :: r) :=
  pairs_one hi hj (by simp) (fun id h1 h2 => by simp only [List.mem_singleton] at h1; have := h id h2; omega) hr

theorem vid_old {A : Heap} {X : List Nat} {S : Sig} {H0 : Heap} {v : AV} {es n : Nat} {cs : List AV} {i : Nat} (h : SOk A X S H0.size H0) (hh : Has S v es n cs) : ∀ j ∈ vid (v.elem i), j < H0.size := by
  intro j hj
  refine (h.valsA hh).bid j ?_
  cases v <;> simp [AV.elem, vid] at hj <;> simp [AV.bid, hj]

/-- the means, in whatever memory that holds the numbers -/
theorem dMean_ok {A : Heap} {X : List Nat} {S : Sig} {H0 H : Heap} {a b : AV} {xs ws : List Int} {i e : Nat} {kI : Int} (hH0 : SOk A X S H0.size H0) (hg : ∀ id, id < H0.size → H.get id = H0.get id) (ha : Has S a 1 xs.length (ints xs)) (hb : Has S b 1 ws.length (ints ws)) (hL : Loads xs ws) (h1 : i < e) (h2 : e ≤ xs.length) (hk : kI = (e : Int) - 1) :
    ACalls Try.prog fn_spec_mean [a, b, .int .i64 (i : Int), .int .i64 kI] H fun r H' => r = frV (mnR xs ws i e) ∧ H' = H :=
  acalls_vals (hH0.ints ha) hg (by omega) fun ha' => acalls_vals (hH0.ints hb) hg (by have := hL.2.2.1; omega) fun hb' => specMean_ok ha' hb' hL h1 h2 hk

/-- two families in one -/
noncomputable def dTwo (args : List AV) (r : AV) (args' : List AV) (r' : AV) : List AV → Option AV := fun a => (dOne args r a).or (dOne args' r' a)

theorem dTwo_fst {args args' : List AV} {r r' : AV} : dTwo args r args' r' args = some r := by unfold dTwo; rw [dOne_is]; rfl

theorem dTwo_snd {args args' : List AV} {r r' : AV} (h : args' ≠ args ∨ r' = r) : dTwo args r args' r' args' = some r' := by
  classical
  unfold dTwo
  by_cases he : args' = args
  · rcases h with h | rfl
    · exact absurd he h
    · subst he; rw [dOne_is]; rfl
  · rw [show dOne args r args' = none from if_neg he, dOne_is]; rfl

theorem dTwo_ok {P : Program} {H : Heap} {f : FuncId} {args args' : List AV} {r r' : AV} (hc : Callable P f) (h : ACalls P f args H fun q H' => q = r ∧ H' = H) (h' : ACalls P f args' H fun q H' => q = r' ∧ H' = H) : FamOk P H f (dTwo args r args' r') := by
  intro vs v hv
  unfold dTwo at hv
  cases h1 : dOne args r vs with
  | some u =>
    rw [h1] at hv
    have hv2 : some u = some v := hv
    injection hv2 with hv2; subst hv2
    exact dOne_ok hc h vs u h1
  | none =>
    rw [h1] at hv
    exact dOne_ok hc h' vs v hv

theorem gd4_op {P : Program} {Qt : FuncId → List AV → Option AV} {base k : Nat} {A : Heap} {X : List Nat} {E : List (Nat × AV)} {S S' : Sig} {acc : List (List Nat × List Nat)} {prs : List (Nat × Nat)} {C : List (List Nat × List Nat) → Prop} {K : St → Prop} {r : List MI} {d : Nat} {v : AV} {op : MOp} (hs : Stp A X E S op (Is v S') := by exact stp_auto) (hq : (!op.isCall && !writes op && !reads op) = true := by exact rfl) (hk : GD4 P Qt base (k + 1) A X ((d, v) :: E) S' (acc ++ [([], [])]) prs r C K) : GD4 P Qt base k A X E S acc prs (⟨some d, none, op⟩ :: r) C K := gd4_is hq hs hk

theorem nth_stI2 {a b : Nat} {r : List Nat} : nth (stI (a :: b :: r)) r.length = (b : Int) ∧ nth (stI (a :: b :: r)) (r.length + 1) = (a : Int) := by
  have h1 := stI_len r
  have h2 := stI_len (b :: r)
  constructor
  · rw [stI, nth_app_lt (by rw [h2]; simp), stI, ← h1, nth_app_eq]
  · rw [stI, show r.length + 1 = (stI (b :: r)).length by rw [h2]; rfl, nth_app_eq]
/- the front of a slice of one's own: what is behind it stays where it is until the next append -/

def preW : AV → Nat → AV
  | .slice id off _ cap es, h => .slice id off h cap es
  | v, _ => v

theorem stp_lenp {A : Heap} {X : List Nat} {E : List (Nat × AV)} {S S0 : Sig} {x : MX} {v : AV} {k n h : Nat} {cs : List AV} (hx : evE E x = some (preW v h)) (hs : Sel S ⟨.rw, v, k, n, cs⟩ S0) (hh : h ≤ n) : Stp A X E S (.len x) (Is (.int .i64 (h : Int)) S) :=
  stp_pure fun τ H m nid hE hS => by
    obtain ⟨h1, h2, h3⟩ := (hS.sel hs).ch ⟨.rw, v, k, n, cs⟩ (by simp)
    simp only at h1 h2 h3
    rcases h3 with ⟨rfl, h3⟩ | ⟨id, rfl, h4, h5⟩
    · obtain rfl : h = 0 := by omega
      simp only [mstep, ev_of hE hx, preW]; rfl
    · simp only [mstep, ev_of hE hx, preW, AV.isSlice, if_true, AV.len]

theorem stp_ixap {A : Heap} {X : List Nat} {E : List (Nat × AV)} {S S0 : Sig} {x y : MX} {v : AV} {k : IntKind} {es n h i : Nat} {a : Int} {cs : List AV} (hx : evE E x = some (preW v h)) (hy : evE E y = some (.int k a)) (ha : a = (i : Int)) (hs : Sel S ⟨.rw, v, es, n, cs⟩ S0) (hh : h ≤ n) (hi : i < h) : Stp A X E S (.ixa x y es) (Is (v.elem i) S) :=
  stp_pure fun τ H m nid hE hS => by
    obtain ⟨h1, h2, h3⟩ := (hS.sel hs).ch ⟨.rw, v, es, n, cs⟩ (by simp)
    simp only at h1 h2 h3
    rcases h3 with ⟨rfl, h3⟩ | ⟨id, rfl, h4, h5⟩
    · omega
    · subst ha
      simp only [mstep, ev_of hE hx, ev_of hE hy, preW, AV.len, AV.es]
      rw [if_pos ⟨by omega, by omega, trivial⟩]; simp [AV.elem]

theorem stp_slp {A : Heap} {X : List Nat} {E : List (Nat × AV)} {S S0 : Sig} {x z : MX} {v : AV} {k n h l : Nat} {cs : List AV} (hx : evE E x = some (preW v h)) (hz : evE E z = some (.int .i64 (l : Int))) (hs : Sel S ⟨.rw, v, k, n, cs⟩ S0) (hh : h ≤ n) (hl : l ≤ h) : Stp A X E S (.sl x none (some z) none k) (Is (preW v l) S) :=
  stp_pure fun τ H m nid hE hS => by
    obtain ⟨h1, h2, h3⟩ := (hS.sel hs).ch ⟨.rw, v, k, n, cs⟩ (by simp)
    simp only at h1 h2 h3
    have e1 : ∀ d, bnd h (some (AV.int .i64 (l : Int))) d = some l := by
      intro d; simp only [bnd]; rw [if_pos (by omega)]; simp
    have e0 : bnd h (none : Option AV) h = some h := rfl
    have e2 : bnd l (none : Option AV) 0 = some 0 := rfl
    rcases h3 with ⟨rfl, h3⟩ | ⟨id, rfl, h4, h5⟩
    · obtain rfl : h = 0 := by omega
      simp only [mstep, ev_of hE hx, Option.map_some, Option.map_none, ev_of hE hz, msl, preW, AV.len, e0, e1, e2]
    · simp only [mstep, ev_of hE hx, Option.map_some, Option.map_none, ev_of hE hz, msl, preW, AV.len, e0, e1, e2]
      simp

theorem stp_appp {A : Heap} {X : List Nat} {E : List (Nat × AV)} {S S0 : Sig} {x y : MX} {v w : AV} {n h m' : Nat} {xs ys : List Int} (hx : evE E x = some (preW v h)) (hy : evE E y = some w) (hs : Sel S ⟨.rw, v, 1, n, ints xs⟩ S0) (hh : Has S w 1 m' (ints ys)) (hn : h ≤ n) (h0 : 0 < m') (hm2 : h + m' ≤ 1000000000000) :
    Stp A X E S (.app x y 1 8) (New fun u => ⟨.rw, u, 1, h + m', ints (xs.take h ++ ys)⟩ :: S0) := by
  refine ⟨?_⟩
  intro τ H m nid hE hS hm
  have hS' := hS.sel hs
  have hc := hS'.ch ⟨.rw, v, 1, n, ints xs⟩ (by simp)
  have hy' := hS.valsA hh
  obtain ⟨h1, h2, h3⟩ := hc
  simp only at h1 h2 h3
  have hml : h + m' ≤ maxLen := by simp only [maxLen]; omega
  have hxl : xs.length = n := by simpa [ints] using h2
  have hyl : ys.length = m' := by simpa [ints] using hy'.cells
  have hcm : (ints (xs.take h ++ ys)).length = (h + m') * 1 := by simp [ints]; omega
  have ham := hS.am
  simp only [mstep, ev_of hE hx, ev_of hE hy]
  unfold mapp
  rw [if_pos hy'.sl, hy'.row]
  simp only
  rw [if_pos ⟨by rw [hy'.cells, hy'.len], ints_one ys, by omega⟩, hy'.len]
  rcases h3 with ⟨rfl, h3⟩ | ⟨id, rfl, h4, h5⟩
  · obtain rfl : h = 0 := by omega
    have hs2 := Heap.lt_new H nid (some ⟨true, ints ys⟩)
    simp only [preW]
    rw [if_neg (by omega), if_pos ⟨by omega, by omega⟩]
    refine ⟨_, _, _, nid + 1, rfl, rfl, ?_, by omega, Nat.le_refl _, Heap.size_le_new _ _ _⟩
    rw [Nat.zero_add, List.take_zero, List.nil_append]
    refine hS'.tail.add ?_ (by omega) hs2 ⟨?_, by simpa using hy'.cells, .inr ⟨nid, rfl, .inl (by omega), by simp [Heap.get_new]⟩⟩ ?_
    · intro id hid; rw [Heap.get_new, if_neg (by omega)]
    · intro k hk; simp only [AV.bid, Option.some.injEq] at hk; omega
    · intro k hk; simp only [AV.bid, Option.some.injEq] at hk; omega
  · simp only [preW]
    rw [if_neg (by omega), if_pos ⟨by omega, hml, trivial⟩, h5]
    simp only
    rw [if_pos (by simp [ints]; omega)]
    simp only [if_true]
    have e : ((ints xs).drop 0).take (h * 1) = ints (xs.take h) := by simp [ints, List.map_take]
    rw [e, ← ints_append]
    have hs2 := Heap.lt_new (H.put id none) nid (some ⟨true, ints (xs.take h ++ ys)⟩)
    refine ⟨_, _, _, nid + 1, rfl, rfl, ?_, by omega, Nat.le_refl _, Heap.size_le_new (H.put id none) nid _⟩
    refine hS'.mod rfl ?_ (by omega) hs2 ⟨?_, hcm, .inr ⟨nid, rfl, .inl (by omega), by simp [Heap.get_new]⟩⟩ (.inr ?_)
    · intro id' hid' hne
      rw [Heap.get_new, if_neg (by omega), Heap.get_put, if_neg]
      intro e; subst e; exact hne rfl
    · intro k hk; simp only [AV.bid, Option.some.injEq] at hk; omega
    · intro k hk; simp only [AV.bid, Option.some.injEq] at hk; omega

theorem gc_preW {P : Program} {A : Heap} {X : List Nat} {E : List (Nat × AV)} {S S0 : Sig} {c : MC} {Q : Exit → St → Prop} {v : AV} {es n : Nat} {cs : List AV} (hs : Sel S ⟨.rw, v, es, n, cs⟩ S0) (h : preW v n = v → GC P A X E S c Q) : GC P A X E S c Q := by
  refine ⟨fun s hf => ?_⟩
  obtain ⟨_, _, h3⟩ := (hf.ok.sel hs).ch ⟨.rw, v, es, n, cs⟩ (by simp)
  simp only at h3
  refine (h ?_).g s hf
  rcases h3 with ⟨rfl, h3⟩ | ⟨id, rfl, h4, h5⟩ <;> rfl

/-- what a function hands back may be said to hold less than it does -/
theorem acalls_weak {P : Program} {f : FuncId} {args : List AV} {H : Heap} {R R' : AV → Heap → Prop} (h : ACalls P f args H R)
    (hw : ∀ r H', R r H' → ∃ H'', R' r H'' ∧ (∀ ι w, HRel ι H' w → HRel ι H'' w) ∧ H'.size ≤ H''.size ∧ H''.ob = H'.ob ∧ (∀ id b, H''.get id = some b → ∃ b', H'.get id = some b' ∧ b'.rw = b.rw)) : ACalls P f args H R' :=
  fun ι w us h1 h2 => (h ι w us h1 h2).mono fun e w' ⟨r, u, H', ι', a1, a2, a3, a4, a5⟩ => by
    obtain ⟨H'', b1, b2, b3, b4, b5⟩ := hw r H' a2
    refine ⟨r, u, H'', ι', a1, b1, a3, b2 _ _ a4, ⟨a5.le, Nat.le_trans a5.size b3, a5.wsize, a5.os, a5.tape, a5.output, a5.rows, fun id b q g1 g2 g3 => ?_, fun id o q g1 g2 => ?_⟩⟩
    · obtain ⟨b', g4, g5⟩ := b5 id b g1
      exact a5.news id b' q g4 (by rw [g5, g2]) g3
    · rw [b4] at g1; exact a5.newo id o q g1 g2

theorem hrel_front {ι : Nat → Option Ref} {H : Heap} {w : World} (h : HRel ι H w) {id : Nat} {cs : List AV} (hg : H.get id = some ⟨true, cs⟩) (m : Nat) : HRel ι (H.put id (some ⟨true, cs.take m⟩)) w where
  fresh := h.fresh
  blk := fun i b hb => by
    rw [Heap.get_put] at hb
    by_cases hi : i = id
    · subst hi
      rw [if_pos rfl] at hb; injection hb with hb; subst hb
      obtain ⟨r, h1, c, e, h2, h3, h4, h5⟩ := h.blk i _ hg
      refine ⟨r, h1, c, e, h2, h3, ?_, ?_⟩
      · simp only [List.length_take] at h4 ⊢; omega
      · simp only at h5 ⊢
        have h6 := (VRelL.iff _ _).1 h5
        refine (VRelL.iff _ _).2 ⟨?_, fun k a v k1 k2 => ?_⟩
        · have := h6.1
          simp only [List.length_take, List.length_drop] at this ⊢; omega
        · rw [List.getElem?_take] at k1
          split at k1
          · rename_i hk
            refine h6.2 k a v k1 ?_
            rw [List.getElem?_take] at k2 ⊢
            split at k2
            · rename_i hk2
              rw [if_pos (by simp only [List.length_take] at hk2; omega)]; exact k2
            · cases k2
          · cases k1
    · rw [if_neg hi] at hb
      exact h.blk i b hb
  apart := fun i b r i' b' r' h1 h2 h3 h4 h5 h6 h7 => by
    rw [Heap.get_put] at h1 h2
    have g : ∀ {j : Nat} {c : Blk}, (if j = id then some ⟨true, cs.take m⟩ else H.get j) = some c → ∃ c', H.get j = some c' ∧ c'.rw = c.rw ∧ (c.cells ≠ [] → c'.cells ≠ []) := by
      intro j c hj
      by_cases hi : j = id
      · subst hi
        rw [if_pos rfl] at hj; injection hj with hj; subst hj
        exact ⟨_, hg, rfl, fun hne hh => hne (by simp only at hh ⊢; rw [hh]; simp)⟩
      · rw [if_neg hi] at hj; exact ⟨c, hj, rfl, fun h => h⟩
    obtain ⟨c, c1, c2, _⟩ := g h1
    obtain ⟨c', c1', c2', c3'⟩ := g h2
    exact h.apart i c r i' c' r' c1 c1' (by rw [c2, h3]) (h4.imp (fun h => by rw [c2', h]) c3') h5 h6 h7
  obs := h.obs
  oapart := h.oapart
  gl := h.gl

/-- the front of an own slice is handed back -/
theorem own_front {P : Program} {f : FuncId} {args : List AV} {H : Heap} {xs : List Int} (h : ACalls P f args H fun r H' => ∃ v zs, ∃ m : Nat, r = preW v m ∧ m ≤ zs.length ∧ zs.take m = xs ∧ Own H H' v 1 zs.length (ints zs) ∧ Le H H') :
    ACalls P f args H fun r H' => OwnI H H' r xs ∧ Le H H' := by
  refine acalls_weak h ?_
  rintro r H' ⟨v, zs, m, rfl, h1, h2, h3, h4⟩
  have hxl : xs.length = m := by rw [← h2, List.length_take]; omega
  obtain ⟨c1, c2⟩ := h3
  rcases c2 with ⟨rfl, c2⟩ | ⟨id, rfl, c3, c4, c5⟩
  · have hm : m = 0 := by omega
    have hx : xs = [] := List.eq_nil_of_length_eq_zero (by omega)
    subst hx
    exact ⟨H', ⟨⟨by simp [ints], .inl ⟨rfl, rfl⟩⟩, h4⟩, fun _ _ h => h, Nat.le_refl _, rfl, fun id b hb => ⟨b, hb, rfl⟩⟩
  · refine ⟨H'.put id (some ⟨true, (ints zs).take m⟩), ⟨⟨by simp [ints], .inr ⟨id, ?_, c3, c4, ?_⟩⟩, ⟨h4.size, fun i hi => ?_, h4.ob⟩⟩, fun ι w hH => hrel_front hH c5 m, Nat.le_refl _, rfl, fun i b hb => ?_⟩
    · rw [hxl]; rfl
    · rw [Heap.get_put, if_pos rfl, ← h2]; simp [ints, List.map_take]
    · rw [Heap.get_put, if_neg (by omega)]; exact h4.get i hi
    · rw [Heap.get_put] at hb
      by_cases hi : i = id
      · subst hi
        rw [if_pos rfl] at hb; injection hb with hb; subst hb
        exact ⟨_, c5, rfl⟩
      · rw [if_neg hi] at hb; exact ⟨b, hb, rfl⟩

end Go.Rx.Try
