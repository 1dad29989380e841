import Derived.Test.YtophpmdlgphihagFnExactPricedPiecesD3
namespace Go.Rx.Try
open Go.Proofs
set_option maxRecDepth 100000
set_option maxHeartbeats 8000000
set_option linter.unusedSimpArgs false
set_option linter.unusedVariables false

theorem missedSquares_ok {H : Heap} {a : AV} {ys : List Int} (ha : Ints H a ys) (hb : ∀ j, -30 ≤ nth ys j ∧ nth ys j ≤ 30) (h1 : 1 ≤ ys.length) (h2 : ys.length ≤ 8) :
    ACalls Try.prog fn_impl_missedSquares [a] H fun r H' => r = frV (pieR ys 0 ys.length) ∧ H' = H := by
  refine ACalls.val ?_ rfl
  refine code_impl_missedSquares.go [.roI a ys.length ys] ⟨⟨rfl, ha⟩, trivial⟩ (by simp) ?_
  unfold mc_impl_missedSquares
  (repeat (first | refine gst (hk := ?_) | (show GO _ _ _ _ _ (⟨some _, none, _⟩ :: _) _; first | refine go_op (hk := ?_) | (refine go_nw (hk := ?_); intro u; try simp only [llc, lln, lna, lza]) | (refine go_np (hk := ?_); intro id)) | (show GO _ _ _ _ _ (⟨none, none, _⟩ :: _) _; refine go_st (hk := ?_)) | (show GO _ _ _ _ _ (⟨_, some _, _⟩ :: _) _; first | refine go_in (hk := ?_) | refine go_out (hk := ?_) | refine go_void (hk := ?_)) | (show GK _ _ _ _ (blockK _ _ _); refine gk_past rfl ?_) | (show GC _ _ _ _ _ (.cond _ _ _) _; first | refine gc_yes (h1 := ?_) | refine gc_no (h1 := ?_))))
  revert id; intro i2
  refine gc_up ys.length (fun d => [(0, a), (2, .ptr i2 0), (3, .int .i64 (wsS ys 0 d)), (4, .int .i64 (wsQ ys 0 d)), (7, a), (8, .int .i64 (ys.length : Int)), (9, .int .i64 (d : Int))]) (fun _ => [cel0 i2, .roI a ys.length ys]) (hb := ?_)
  intro d hd I ν m hk
  obtain ⟨⟨a1, a2⟩, a3, a4⟩ := ws_bd hb 0 d
  (repeat (first | refine gst (hk := ?_) | (show GO _ _ _ _ _ (⟨some _, none, _⟩ :: _) _; first | refine go_op (hk := ?_) | (refine go_nw (hk := ?_); intro u; try simp only [llc, lln, lna, lza]) | (refine go_np (hk := ?_); intro id)) | (show GO _ _ _ _ _ (⟨none, none, _⟩ :: _) _; refine go_st (hk := ?_)) | (show GO _ _ _ _ _ (⟨_, some _, _⟩ :: _) _; first | refine go_in (hk := ?_) | refine go_out (hk := ?_) | refine go_void (hk := ?_)) | (show GK _ _ _ _ (blockK _ _ _); refine gk_past rfl ?_) | (show GC _ _ _ _ _ (.cond _ _ _) _; first | refine gc_yes (h1 := ?_) | refine gc_no (h1 := ?_))))
  refine gc_cond rfl (fun h => ?_) (fun h => ?_)
  · have hk := hk (by omega)
    have hx := hb d
    have m1 := absmul (k := nth ys d) (l := nth ys d) (A := 30) (B := 30) (by omega) (by omega) (by omega) (by omega)
    rw [show wsS ys 0 (d + 1) = wsS ys 0 d + nth ys (0 + d) from rfl, show wsQ ys 0 (d + 1) = wsQ ys 0 d + nth ys (0 + d) * nth ys (0 + d) from rfl, Nat.zero_add] at hk
    (repeat (first | refine gst (hk := ?_) | (show GO _ _ _ _ _ (⟨some _, none, _⟩ :: _) _; first | refine go_op (hk := ?_) | (refine go_nw (hk := ?_); intro u; try simp only [llc, lln, lna, lza]) | (refine go_np (hk := ?_); intro id)) | (show GO _ _ _ _ _ (⟨none, none, _⟩ :: _) _; refine go_st (hk := ?_)) | (show GO _ _ _ _ _ (⟨_, some _, _⟩ :: _) _; first | refine go_in (hk := ?_) | refine go_out (hk := ?_) | refine go_void (hk := ?_)) | (show GK _ _ _ _ (blockK _ _ _); refine gk_past rfl ?_) | (show GC _ _ _ _ _ (.cond _ _ _) _; first | refine gc_yes (h1 := ?_) | refine gc_no (h1 := ?_))))
    exact gk_next hk
  · obtain rfl : d = ys.length := by omega
    have m1 := absmul (k := wsS ys 0 ys.length) (l := wsS ys 0 ys.length) (A := 240) (B := 240) (by omega) (by omega) (by omega) (by omega)
    have m2 : ((ys.length : Nat) : Int) * wsQ ys 0 ys.length ≤ 8 * 7200 := Int.mul_le_mul (by omega) (by omega) (by omega) (by omega)
    have m3 : 0 ≤ ((ys.length : Nat) : Int) * wsQ ys 0 ys.length := Int.mul_nonneg (by omega) (by omega)
    (repeat (first | refine gst (hk := ?_) | (show GO _ _ _ _ _ (⟨some _, none, _⟩ :: _) _; first | refine go_op (hk := ?_) | (refine go_nw (hk := ?_); intro u; try simp only [llc, lln, lna, lza]) | (refine go_np (hk := ?_); intro id)) | (show GO _ _ _ _ _ (⟨none, none, _⟩ :: _) _; refine go_st (hk := ?_)) | (show GO _ _ _ _ _ (⟨_, some _, _⟩ :: _) _; first | refine go_in (hk := ?_) | refine go_out (hk := ?_) | refine go_void (hk := ?_)) | (show GK _ _ _ _ (blockK _ _ _); refine gk_past rfl ?_) | (show GC _ _ _ _ _ (.cond _ _ _) _; first | refine gc_yes (h1 := ?_) | refine gc_no (h1 := ?_))))
    refine go_callp rfl code_impl_lowest.callable (fun H hH => lowest_ok (a := ((ys.length : Nat) : Int) * wsQ ys 0 ys.length - wsS ys 0 ys.length * wsS ys 0 ys.length) (b := ((ys.length : Nat) : Int)) (by omega) (by omega) (by omega)) ?_
    rw [show ((((ys.length : Nat) : Int) * wsQ ys 0 ys.length - wsS ys 0 ys.length * wsS ys 0 ys.length : Int) : Rat) / (((ys.length : Nat) : Int) : Rat) = pieR ys 0 ys.length from rfl]
    (repeat (first | refine gst (hk := ?_) | (show GO _ _ _ _ _ (⟨some _, none, _⟩ :: _) _; first | refine go_op (hk := ?_) | (refine go_nw (hk := ?_); intro u; try simp only [llc, lln, lna, lza]) | (refine go_np (hk := ?_); intro id)) | (show GO _ _ _ _ _ (⟨none, none, _⟩ :: _) _; refine go_st (hk := ?_)) | (show GO _ _ _ _ _ (⟨_, some _, _⟩ :: _) _; first | refine go_in (hk := ?_) | refine go_out (hk := ?_) | refine go_void (hk := ?_)) | (show GK _ _ _ _ (blockK _ _ _); refine gk_past rfl ?_) | (show GC _ _ _ _ _ (.cond _ _ _) _; first | refine gc_yes (h1 := ?_) | refine gc_no (h1 := ?_))))
    exact gk_rets (rvs_c rfl (by exact Sel.auto) rfl rfl rvs_nil) fun H' hH => ⟨rfl, hH.leE⟩

theorem sumY_eq {f g : Nat → Int} : ∀ {d : Nat}, (∀ j, j < d → f j = g j) → sumY f d = sumY g d
  | 0, _ => rfl
  | d + 1, h => by
    show sumY f d + f d = sumY g d + g d
    rw [sumY_eq fun j hj => h j (by omega), h d (by omega)]

theorem pie_win {xs : List Int} {i k : Nat} (h2 : k ≤ xs.length) : pieR (winL xs i k) 0 (winL xs i k).length = pieR xs i k := by
  have e0 := win_len2 (xs := xs) (i := i) h2
  have e1 : wsS (winL xs i k) 0 (k - i) = wsS xs i (k - i) := sumY_eq fun j hj => by rw [Nat.zero_add, win_nth h2 hj]
  have e2 : wsQ (winL xs i k) 0 (k - i) = wsQ xs i (k - i) := sumY_eq fun j hj => by rw [Nat.zero_add, win_nth h2 hj]
  rw [e0]
  unfold pieR
  rw [Nat.sub_zero, e1, e2]

theorem Steps.win {xs : List Int} (h : Steps xs) (i k : Nat) (j : Nat) : -30 ≤ nth (winL xs i k) j ∧ nth (winL xs i k) j ≤ 30 :=
  (Bd.nth (fun x hx => h.1 x (by unfold winL at hx; exact List.mem_of_mem_drop (List.mem_of_mem_take hx)) : Bd 30 (winL xs i k)) (by omega) j)

def MpO (ob : Nat → Option OB) (id : Nat) (es : List ME) (clk : Nat) : Prop := ∃ o, ob id = some o ∧ o.mo = some (.map es clk)

def ItO (ob : Nat → Option OB) (id m since : Nat) (seen : List Nat) (last : Nat) : Prop := ∃ o, ob id = some o ∧ o.mo = some (.iter m since seen last)

def seo (ob : Nat → Option OB) (id : Nat) (o : OB) : Nat → Option OB := fun i => if i = id then some o else ob i

theorem mp_same {ob : Nat → Option OB} {id : Nat} {es : List ME} {clk : Nat} : MpO (seo ob id (obM (.map es clk))) id es clk := ⟨obM (.map es clk), by simp [seo], rfl⟩

theorem it_same {ob : Nat → Option OB} {id m since last : Nat} {seen : List Nat} : ItO (seo ob id (obM (.iter m since seen last))) id m since seen last := ⟨obM (.iter m since seen last), by simp [seo], rfl⟩

theorem mp_other {ob : Nat → Option OB} {id j : Nat} {es : List ME} {clk : Nat} {o : OB} (h : MpO ob j es clk) (hn : j ≠ id) : MpO (seo ob id o) j es clk := by
  obtain ⟨x, h1, h2⟩ := h
  exact ⟨x, by simp only [seo]; rw [if_neg hn]; exact h1, h2⟩

theorem it_other {ob : Nat → Option OB} {id j m since last : Nat} {seen : List Nat} {o : OB} (h : ItO ob j m since seen last) (hn : j ≠ id) : ItO (seo ob id o) j m since seen last := by
  obtain ⟨x, h1, h2⟩ := h
  exact ⟨x, by simp only [seo]; rw [if_neg hn]; exact h1, h2⟩

theorem mp_fresh {ob : Nat → Option OB} {id j : Nat} {es : List ME} {clk : Nat} (h : MpO ob j es clk) (hn : ob id = none) : j ≠ id := by
  rintro rfl
  obtain ⟨x, h1, _⟩ := h
  rw [hn] at h1; cases h1

theorem mp_it {ob : Nat → Option OB} {id j m since last : Nat} {seen : List Nat} {es : List ME} {clk : Nat} (h : MpO ob j es clk) (h' : ItO ob id m since seen last) : j ≠ id := by
  rintro rfl
  obtain ⟨x, h1, h2⟩ := h
  obtain ⟨y, h3, h4⟩ := h'
  rw [h1] at h3; cases h3
  rw [h2] at h4; cases h4

theorem mp_eq {ob ob' : Nat → Option OB} {j : Nat} {es : List ME} {clk : Nat} (h : MpO ob j es clk) (he : ob' j = ob j) : MpO ob' j es clk := by
  obtain ⟨x, h1, h2⟩ := h
  exact ⟨x, by rw [he]; exact h1, h2⟩

/-- what was there is there, but for some -/
def ExO (ob0 ob : Nat → Option OB) (I : List Nat) : Prop := ∀ j o, j ∉ I → ob0 j = some o → ob j = some o

theorem ExO.refl (ob : Nat → Option OB) (I : List Nat) : ExO ob ob I := fun _ _ _ h => h

theorem ExO.new {ob0 ob : Nat → Option OB} {I : List Nat} (h : ExO ob0 ob I) {id : Nat} (hn : ob id = none) (o : OB) : ExO ob0 (seo ob id o) I := fun j p h1 h2 => by
  have h3 := h j p h1 h2
  have : j ≠ id := by rintro rfl; rw [hn] at h3; cases h3
  simp only [seo]; rw [if_neg this]; exact h3

theorem ExO.gone {ob0 ob : Nat → Option OB} {I : List Nat} (h : ExO ob0 ob I) {id : Nat} (hi : id ∉ I) (hn : ob id = none) : ob0 id = none := by
  cases h0 : ob0 id with
  | none => rfl
  | some o => rw [h id o hi h0] at hn; cases hn

theorem ExO.mod {ob0 ob : Nat → Option OB} {I : List Nat} (h : ExO ob0 ob I) {id : Nat} (hn : ob0 id = none ∨ id ∈ I) (o : OB) : ExO ob0 (seo ob id o) I := fun j p h1 h2 => by
  have : j ≠ id := by
    rintro rfl
    rcases hn with hn | hn
    · rw [hn] at h2; cases h2
    · exact h1 hn
  simp only [seo]; rw [if_neg this]; exact h j p h1 h2

/-- fewer objects may be told -/
theorem acalls_obs {P : Program} {f : FuncId} {args : List AV} {H : Heap} {R R' : AV → Heap → Prop} (h : ACalls P f args H R)
    (hw : ∀ r H', R r H' → ∃ ob, R' r ⟨H'.size, H'.get, ob⟩ ∧ ∀ i o, ob i = some o → H'.ob i = some o) : ACalls P f args H R' :=
  fun ι w us h1 h2 => (h ι w us h1 h2).mono fun e w' ⟨r, u, H', ι', a1, a2, a3, a4, a5⟩ => by
    obtain ⟨ob, b1, b2⟩ := hw r H' a2
    exact ⟨r, u, ⟨H'.size, H'.get, ob⟩, ι', a1, b1, a3, ⟨a4.fresh, a4.blk, a4.apart, fun id o h => a4.obs id o (b2 id o h), fun id o r id' o' r' g1 g2 => a4.oapart id o r id' o' r' (b2 _ _ g1) (b2 _ _ g2), a4.gl⟩,
      ⟨a5.le, a5.size, a5.wsize, a5.os, a5.tape, a5.output, a5.rows, a5.news, fun id o r g1 g2 => a5.newo id o r (b2 _ _ g1) g2⟩⟩

theorem sok_mapAt {A : Heap} {X : List Nat} {S : Sig} {m : Nat} {H : Heap} {ob : Nat → Option OB} {id : Nat} {es : List ME} {clk : Nat} (h : SOk (A.obs ob) X S m H) (hm : MpO ob id es clk) : H.mapAt (.map id) = some (id, es, clk) := by
  obtain ⟨o, h1, h2⟩ := hm
  have : H.ob = ob := h.le.ob
  simp only [Heap.mapAt, this, h1, h2]

theorem sok_iterAt {A : Heap} {X : List Nat} {S : Sig} {n : Nat} {H : Heap} {ob : Nat → Option OB} {id m since last : Nat} {seen : List Nat} (h : SOk (A.obs ob) X S n H) (hm : ItO ob id m since seen last) : H.iterAt (.ptr id 0) = some (id, m, since, seen, last) := by
  obtain ⟨o, h1, h2⟩ := hm
  have : H.ob = ob := h.le.ob
  simp only [Heap.iterAt, this, h1, h2]

theorem sok_seto {A : Heap} {X : List Nat} {S : Sig} {H : Heap} {ob : Nat → Option OB} (h : SOk (A.obs ob) X S H.size H) (id : Nat) (o : OB) : SOk (A.obs (seo ob id o)) X S (H.seto id (some o)).size (H.seto id (some o)) := by
  have hob : H.ob = ob := h.le.ob
  have := h.obs (seo ob id o) (Nat.le_refl _) (Nat.le_refl _)
  have e : H.seto id (some o) = ⟨H.size, H.get, seo ob id o⟩ := by unfold Heap.seto seo; rw [hob]
  rw [e]; exact this

theorem sok_newo {A : Heap} {X : List Nat} {S : Sig} {H : Heap} {ob : Nat → Option OB} (h : SOk (A.obs ob) X S H.size H) (o : OB) : SOk (A.obs (seo ob H.size o)) X S (H.newo o).size (H.newo o) := by
  have hob : H.ob = ob := h.le.ob
  have := h.obs (seo ob H.size o) (Nat.le_succ _) (Nat.le_refl _)
  have e : H.newo o = ⟨H.size + 1, H.get, seo ob H.size o⟩ := by unfold Heap.newo seo; rw [hob]
  rw [e]; exact this

theorem go_mk {P : Program} {A : Heap} {X : List Nat} {E : List (Nat × AV)} {S : Sig} {r : List MI} {K : St → Prop} {ob : Nat → Option OB} {d : Nat} (hk : ∀ id, ob id = none → GO P (A.obs (seo ob id (obM (.map [] 0)))) X ((d, .map id) :: E) S r K) : GO P (A.obs ob) X E S (⟨some d, none, .mq .mk⟩ :: r) K := by
  refine ⟨fun s hf => ?_⟩
  rw [mops_cons]
  simp only [mone, mexec, mmq]
  intro h1 h2
  rw [show s.H.ob = ob from hf.ok.le.ob] at h2
  exact (hk s.H.size h2).g _ ⟨look_cons hf.env d _, sok_newo hf.ok _⟩

theorem go_rg {P : Program} {A : Heap} {X : List Nat} {E : List (Nat × AV)} {S : Sig} {r : List MI} {K : St → Prop} {ob : Nat → Option OB} {d m : Nat} {x : MX} {es : List ME} {clk : Nat} (hx : evE E x = some (.map m)) (hm : MpO ob m es clk)
    (hk : ∀ id, ob id = none → GO P (A.obs (seo ob id (obM (.iter m clk [] clk)))) X ((d, .ptr id 0) :: E) S r K) : GO P (A.obs ob) X E S (⟨some d, none, .mq (.rg x)⟩ :: r) K := by
  refine ⟨fun s hf => ?_⟩
  rw [mops_cons]
  simp only [mone, mexec, mmq, ev_of hf.env hx, sok_mapAt hf.ok hm]
  intro h1 h2
  rw [show s.H.ob = ob from hf.ok.le.ob] at h2
  exact (hk s.H.size h2).g _ ⟨look_cons hf.env d _, sok_newo hf.ok _⟩

theorem go_nx {P : Program} {A : Heap} {X : List Nat} {E : List (Nat × AV)} {S : Sig} {r : List MI} {K : St → Prop} {ob : Nat → Option OB} {d id m since last : Nat} {seen : List Nat} {x : MX} {es : List ME} {clk : Nat} (hx : evE E x = some (.ptr id 0)) (hi : ItO ob id m since seen last) (hm : MpO ob m es clk)
    (h1 : ∀ e ∈ es, e.born < since) (h2 : since ≤ last) (h3 : (∀ e ∈ es, e.born ∈ seen) → GO P (A.obs ob) X ((d, .tuple [.bool false]) :: E) S r K)
    (h4 : ∀ e ∈ es, e.born ∉ seen → GO P (A.obs (seo ob id (obM (.iter m since (seen ++ [e.born]) clk)))) X ((d, .tuple [.bool true, e.key, e.val]) :: E) S r K) : GO P (A.obs ob) X E S (⟨some d, none, .mq (.nx x)⟩ :: r) K := by
  refine ⟨fun s hf => ?_⟩
  rw [mops_cons]
  simp only [mone, mexec, mmq, ev_of hf.env hx, sok_iterAt hf.ok hi, sok_mapAt hf.ok hm]
  exact ⟨h1, h2, fun g => (h3 g).g _ ⟨look_cons hf.env d _, hf.ok⟩, fun e he hn => (h4 e he hn).g _ ⟨look_cons hf.env d _, sok_seto hf.ok _ _⟩⟩

theorem go_en {P : Program} {A : Heap} {X : List Nat} {E : List (Nat × AV)} {S : Sig} {r : List MI} {K : St → Prop} {ob : Nat → Option OB} {d id m since last : Nat} {seen : List Nat} {x : MX} {es : List ME} {e : ME} (hx : evE E x = some (.ptr id 0)) (hi : ItO ob id m since (seen ++ [e.born]) last) (hm : MpO ob m es last)
    (he : e ∈ es) (hn : (es.map (·.born)).Nodup) (hk : GO P (A.obs ob) X ((d, .tuple [e.key, e.val]) :: E) S r K) : GO P (A.obs ob) X E S (⟨some d, none, .mq (.en x)⟩ :: r) K := by
  refine ⟨fun s hf => ?_⟩
  rw [mops_cons]
  have key : ∀ l : List ME, e ∈ l → (l.map (·.born)).Nodup → l.find? (fun q => q.born == e.born) = some e := by
    intro l
    induction l with
    | nil => intro h; simp at h
    | cons q l ih =>
      intro hm hn
      rw [List.map_cons, List.nodup_cons] at hn
      rw [List.find?_cons]
      rcases List.mem_cons.1 hm with rfl | hm
      · simp
      · have : ¬ q.born = e.born := fun h => hn.1 (by rw [h]; exact List.mem_map.2 ⟨e, hm, rfl⟩)
        have h2 : (q.born == e.born) = false := by simpa using this
        rw [h2]; exact ih hm hn.2
  simp only [mone, mexec, mmq, ev_of hf.env hx, sok_iterAt hf.ok hi, sok_mapAt hf.ok hm, List.getLast?_append, List.getLast?_singleton, Option.some_or, key es he hn]
  exact ⟨trivial, hk.g _ ⟨look_cons hf.env d _, hf.ok⟩⟩

/-- a new entry -/
theorem go_up {P : Program} {A : Heap} {X : List Nat} {E : List (Nat × AV)} {S : Sig} {r : List MI} {K : St → Prop} {ob : Nat → Option OB} {m : Nat} {x i y : MX} {st : Bool} {k v : AV} {es : List ME} {clk : Nat} (hx : evE E x = some (.map m)) (hi : evE E i = some k) (hy : evE E y = some v) (hm : MpO ob m es clk)
    (hf : findA st k es 0 = some none) (hk : GO P (A.obs (seo ob m (obM (.map (es ++ [⟨k, v, clk⟩]) (clk + 1))))) X E S r K) : GO P (A.obs ob) X E S (⟨none, none, .mq (.up x i y st)⟩ :: r) K := by
  refine ⟨fun s hs => ?_⟩
  rw [mops_cons]
  simp only [mone, mexec, mmq, ev_of hs.env hx, ev_of hs.env hi, ev_of hs.env hy, sok_mapAt hs.ok hm, hf]
  exact hk.g _ ⟨hs.env, sok_seto hs.ok _ _⟩

theorem go_dl {P : Program} {A : Heap} {X : List Nat} {E : List (Nat × AV)} {S : Sig} {r : List MI} {K : St → Prop} {ob : Nat → Option OB} {m : Nat} {x i : MX} {st : Bool} {k v : AV} {j : Nat} {es : List ME} {clk : Nat} (hx : evE E x = some (.map m)) (hi : evE E i = some k) (hm : MpO ob m es clk)
    (hf : findA st k es 0 = some (some (j, v))) (hk : GO P (A.obs (seo ob m (obM (.map (es.eraseIdx j) clk)))) X E S r K) : GO P (A.obs ob) X E S (⟨none, none, .mq (.dl x i st)⟩ :: r) K := by
  refine ⟨fun s hs => ?_⟩
  rw [mops_cons]
  simp only [mone, mexec, mmq, ev_of hs.env hx, ev_of hs.env hi, sok_mapAt hs.ok hm, hf]
  exact hk.g _ ⟨hs.env, sok_seto hs.ok _ _⟩

/-- a call that changes objects -/
theorem go_callA {P : Program} {A : Heap} {X : List Nat} {E : List (Nat × AV)} {S : Sig} {r : List MI} {K : St → Prop} {ob : Nat → Option OB} {d : Nat} {f : FuncId} {args : List MX} {vs : List AV} {γ : Type} {O : γ → Nat → Option OB} {V : γ → AV} {T : γ → Sig} {Φ : γ → Prop} (ha : evsE E args = some vs) (hc : Callable P f)
    (h : ∀ H, SOk (A.obs ob) X S H.size H → ACalls P f vs H fun r H' => ∃ g, r = V g ∧ SOk (A.obs (O g)) X (T g) H'.size H' ∧ Φ g) (hk : ∀ g, Φ g → GO P (A.obs (O g)) X ((d, V g) :: E) (T g) r K) : GO P (A.obs ob) X E S (⟨some d, none, .call f args⟩ :: r) K := by
  refine ⟨fun s hf => ?_⟩
  rw [mops_cons]
  have := h s.H hf.ok
  rw [← evs_of hf.env ha] at this
  refine ⟨hc, _, this, ?_⟩
  rintro v' H' ⟨g, rfl, ho, hg⟩
  exact (hk g hg).g _ ⟨look_cons hf.env d _, ho⟩

/-- a loop that changes objects -/
theorem gc_loopA {P : Program} {A : Heap} {X : List Nat} {E : List (Nat × AV)} {S : Sig} {Q : Exit → St → Prop} {γ : Type} (O : γ → Nat → Option OB) (EI : γ → List (Nat × AV)) (SI : γ → Sig) (Φ : γ → Prop) (μ : γ → Nat) (g0 : γ) {c : MC} (h0 : Φ g0)
    (hE : Cov E (EI g0)) (hS : Sub S (SI g0))
    (hb : ∀ g, Φ g → ∀ (I : St → Prop) (ν : St → Nat) (m : Nat), (∀ g', Φ g' → μ g' < μ g → GK (A.obs (O g')) X (EI g') (SI g') (loopK I ν m Q .normal)) → GC P (A.obs (O g)) X (EI g) (SI g) c (loopK I ν m Q)) : GC P (A.obs (O g0)) X E S (.loop c) Q := by
  refine ⟨fun s hf => ?_⟩
  rw [mwp_loop]
  refine mloop_down (fun j s => ∃ g, Φ g ∧ μ g = j ∧ Fit (A.obs (O g)) X (EI g) (SI g) s) (μ g0) ⟨g0, h0, rfl, hf.cov hE hS⟩ ?_
  rintro j s' ⟨g, h1, h2, h3⟩ I ν m hn
  refine (hb g h1 I ν m (fun g' k1 k2 => ⟨fun s'' hf'' => ?_⟩)).g s' h3
  exact hn (μ g') s'' (by omega) ⟨g', k1, rfl, hf''⟩

/-- the same state, by its objects -/
theorem sok_leO {A : Heap} {X : List Nat} {S : Sig} {H H' : Heap} {ob ob' : Nat → Option OB} (h : SOk (A.obs ob) X S H.size H) (h1 : H.size ≤ H'.size) (h2 : ∀ id, id < H.size → H'.get id = H.get id) (h3 : H'.ob = ob') : SOk (A.obs ob') X S H'.size H' := by
  have h4 := h.obs ob' (Nat.le_refl _) (Nat.le_refl _)
  have := h4.same (H' := H') (m' := H'.size) h2 h1 (Nat.le_refl _) h3
  exact this

structure CE where
  p : Nat
  v : Rat
  b : Nat

def ceM (e : CE) : ME := ⟨.int .i64 (e.p : Int), frV e.v, e.b⟩

def CutsOk (L : List CE) (clk : Nat) : Prop := (L.map CE.b).Nodup ∧ (∀ e ∈ L, e.b < clk) ∧ (L.map CE.p).Nodup

def loseB (p : Nat) (v : Rat) (e : CE) : Bool := decide (p ≤ e.p) && decide (v ≤ e.v)

theorem loseB_iff {p : Nat} {v : Rat} {e : CE} : loseB p v e = true ↔ p ≤ e.p ∧ v ≤ e.v := by unfold loseB; rw [Bool.and_eq_true, decide_eq_true_eq, decide_eq_true_eq]

theorem map_inj {α β : Type} {f : α → β} : ∀ {L : List α}, (L.map f).Nodup → ∀ {x y : α}, x ∈ L → y ∈ L → f x = f y → x = y
  | [], _, x, _, h, _, _ => by simp at h
  | a :: L, hn, x, y, hx, hy, he => by
    rw [List.map_cons, List.nodup_cons] at hn
    rcases List.mem_cons.1 hx with h1 | h1 <;> rcases List.mem_cons.1 hy with h2 | h2
    · rw [h1, h2]
    · subst h1; exact absurd (List.mem_map.2 ⟨y, h2, he.symm⟩) hn.1
    · subst h2; exact absurd (List.mem_map.2 ⟨x, h1, he⟩) hn.1
    · exact map_inj hn.2 h1 h2 he

/-- those that lose and have come are out -/
def flC (L : List CE) (p : Nat) (v : Rat) (seen : List Nat) : List CE := L.filter fun e => !(seen.contains e.b && loseB p v e)

theorem flC_nil (L : List CE) (p : Nat) (v : Rat) : flC L p v [] = L := by
  unfold flC; rw [List.filter_eq_self]; intro e _; simp

theorem flC_mem {L : List CE} {p : Nat} {v : Rat} {seen : List Nat} {e : CE} : e ∈ flC L p v seen ↔ e ∈ L ∧ ¬ (e.b ∈ seen ∧ loseB p v e = true) := by
  unfold flC; rw [List.mem_filter]; simp only [Bool.not_eq_true', Bool.and_eq_false_imp, List.contains_iff_mem]
  constructor
  · rintro ⟨h1, h2⟩; exact ⟨h1, fun h => by rw [h2 h.1] at h; exact absurd h.2 (by simp)⟩
  · rintro ⟨h1, h2⟩; refine ⟨h1, fun h => ?_⟩
    cases hb : loseB p v e with
    | false => rfl
    | true => exact absurd ⟨h, hb⟩ h2

theorem flC_sub (L : List CE) (p : Nat) (v : Rat) (seen : List Nat) : (flC L p v seen).Sublist L := List.filter_sublist

theorem CutsOk.sub {L M : List CE} {clk : Nat} (h : CutsOk L clk) (hs : M.Sublist L) : CutsOk M clk := ⟨(hs.map _).nodup h.1, fun e he => h.2.1 e (hs.subset he), (hs.map _).nodup h.2.2⟩

theorem flC_keep {L : List CE} {clk p : Nat} {v : Rat} {seen : List Nat} (hL : CutsOk L clk) {e : CE} (he : e ∈ L) (hl : loseB p v e = false) : flC L p v (seen ++ [e.b]) = flC L p v seen := by
  unfold flC
  apply List.filter_congr
  intro x hx
  by_cases hxe : x.b = e.b
  · obtain rfl := map_inj hL.1 hx he hxe
    simp [hl]
  · have : (seen ++ [e.b]).contains x.b = seen.contains x.b := by
      rw [Bool.eq_iff_iff, List.contains_iff_mem, List.contains_iff_mem, List.mem_append, List.mem_singleton]
      exact ⟨fun h => h.resolve_right hxe, .inl⟩
    rw [this]

theorem erase_filter : ∀ {L : List CE} {j : Nat} {e : CE}, (L.map CE.b).Nodup → L[j]? = some e → L.eraseIdx j = L.filter fun x => decide (x.b ≠ e.b)
  | [], j, e, _, h => by simp at h
  | a :: L, 0, e, hn, h => by
    rw [List.map_cons, List.nodup_cons] at hn
    simp only [List.getElem?_cons_zero, Option.some.injEq] at h; subst h
    rw [List.eraseIdx_cons_zero, List.filter_cons]
    simp only [ne_eq, not_true_eq_false, decide_false, Bool.false_eq_true, if_false]
    symm
    rw [List.filter_eq_self]
    intro x hx
    rw [decide_eq_true_eq]
    exact fun h => hn.1 (List.mem_map.2 ⟨x, hx, h⟩)
  | a :: L, j + 1, e, hn, h => by
    rw [List.map_cons, List.nodup_cons] at hn
    rw [List.getElem?_cons_succ] at h
    have hm : e ∈ L := List.mem_of_getElem? h
    have : a.b ≠ e.b := fun h => hn.1 (List.mem_map.2 ⟨e, hm, h.symm⟩)
    rw [List.eraseIdx_cons_succ, List.filter_cons, erase_filter hn.2 h]
    simp only [this, ne_eq, not_false_eq_true, decide_true, if_true]

theorem flC_erase {L : List CE} {clk p : Nat} {v : Rat} {seen : List Nat} (hL : CutsOk L clk) {e : CE} {j : Nat} (he : (flC L p v seen)[j]? = some e) (hl : loseB p v e = true) : (flC L p v seen).eraseIdx j = flC L p v (seen ++ [e.b]) := by
  rw [erase_filter (hL.sub (flC_sub _ _ _ _)).1 he]
  have hm := (flC_sub L p v seen).subset (List.mem_of_getElem? he)
  unfold flC
  rw [List.filter_filter]
  apply List.filter_congr
  intro x hx
  by_cases hxe : x.b = e.b
  · obtain rfl := map_inj hL.1 hx hm hxe
    simp [hl]
  · have : (seen ++ [e.b]).contains x.b = seen.contains x.b := by
      rw [Bool.eq_iff_iff, List.contains_iff_mem, List.contains_iff_mem, List.mem_append, List.mem_singleton]
      exact ⟨fun h => h.resolve_right hxe, .inl⟩
    rw [this]
    simp [hxe]

theorem flC_end {L : List CE} {p : Nat} {v : Rat} {seen : List Nat} (h : ∀ e ∈ flC L p v seen, e.b ∈ seen) : flC L p v seen = L.filter fun e => !loseB p v e := by
  unfold flC
  apply List.filter_congr
  intro x hx
  cases hl : loseB p v x with
  | false => simp
  | true =>
    by_cases hs : x.b ∈ seen
    · simp [hs]
    · exact absurd (h x (flC_mem.2 ⟨hx, fun h => hs h.1⟩)) hs

theorem findA_at : ∀ {L : List CE} {j : Nat} {e : CE} (i : Nat), (L.map CE.p).Nodup → L[j]? = some e → findA false (.int .i64 (e.p : Int)) (L.map ceM) i = some (some (i + j, frV e.v))
  | [], j, e, _, _, h => by simp at h
  | a :: L, 0, e, i, hn, h => by
    simp only [List.getElem?_cons_zero, Option.some.injEq] at h; subst h
    simp [findA, ceM, sameA]
  | a :: L, j + 1, e, i, hn, h => by
    rw [List.map_cons, List.nodup_cons] at hn
    rw [List.getElem?_cons_succ] at h
    have hm : e ∈ L := List.mem_of_getElem? h
    have hne : a.p ≠ e.p := fun h => hn.1 (List.mem_map.2 ⟨e, hm, h.symm⟩)
    have : (((e.p : Nat) : Int) == ((a.p : Nat) : Int)) = false := by rw [beq_eq_false_iff_ne]; omega
    simp only [List.map_cons, findA, ceM, sameA, and_self, if_true, this]
    rw [show i + (j + 1) = i + 1 + j by omega]
    exact findA_at (i + 1) hn.2 h

theorem findA_no : ∀ {L : List CE} {p : Nat} (i : Nat), (∀ e ∈ L, e.p ≠ p) → findA false (.int .i64 (p : Int)) (L.map ceM) i = some none
  | [], p, _, _ => rfl
  | a :: L, p, i, h => by
    have hne := h a (by simp)
    have : (((p : Nat) : Int) == ((a.p : Nat) : Int)) = false := by rw [beq_eq_false_iff_ne]; omega
    simp only [List.map_cons, findA, ceM, sameA, and_self, if_true, this]
    exact findA_no (i + 1) fun e he => h e (by simp [he])

/-- the stamps that have come -/
def GoneC (L : List CE) (seen : List Nat) : Prop := seen.Nodup ∧ ∀ b ∈ seen, b ∈ L.map CE.b

theorem GoneC.nil (L : List CE) : GoneC L [] := ⟨List.nodup_nil, by simp⟩

theorem GoneC.le {L : List CE} {seen : List Nat} (h : GoneC L seen) : seen.length ≤ L.length := by
  have := h.1.length_le_of_subset (fun b hb => h.2 b hb : seen ⊆ L.map CE.b)
  rwa [List.length_map] at this

theorem GoneC.snoc {L : List CE} {seen : List Nat} (h : GoneC L seen) {e : CE} (he : e ∈ L) (hn : e.b ∉ seen) : GoneC L (seen ++ [e.b]) := by
  refine ⟨?_, fun b hb => ?_⟩
  · rw [List.nodup_append]
    exact ⟨h.1, by simp, fun a ha b hb => by simp only [List.mem_singleton] at hb; subst hb; exact fun h => hn (h ▸ ha)⟩
  · rcases List.mem_append.1 hb with hb | hb
    · exact h.2 b hb
    · simp only [List.mem_singleton] at hb; subst hb; exact List.mem_map.2 ⟨e, he, rfl⟩

theorem GoneC.lt {L : List CE} {seen : List Nat} (h : GoneC L seen) {e : CE} (he : e ∈ L) (hn : e.b ∉ seen) : L.length - (seen ++ [e.b]).length < L.length - seen.length := by
  have := (h.snoc he hn).le
  rw [List.length_append, List.length_singleton] at this ⊢
  omega

/-- what is kept when a way is offered -/
def KpC (L : List CE) (p : Nat) (v : Rat) (L' : List CE) : Prop := ((∃ e ∈ L, e.p ≤ p ∧ e.v ≤ v) ∧ L' = L) ∨ ((∀ e ∈ L, ¬ (e.p ≤ p ∧ e.v ≤ v)) ∧ ∃ b, L' = (L.filter fun e => !loseB p v e) ++ [⟨p, v, b⟩])

/-- the ways that are not beaten, of some -/
def FrontC (L : List CE) (S : Nat → Rat → Prop) : Prop := (∀ e ∈ L, S e.p e.v) ∧ (∀ p v, S p v → ∃ e ∈ L, e.p ≤ p ∧ e.v ≤ v) ∧ ∀ e ∈ L, ∀ e' ∈ L, e.p < e'.p → e'.v < e.v

theorem FrontC.keep {L L' : List CE} {S : Nat → Rat → Prop} {p : Nat} {v : Rat} (h : FrontC L S) (hk : KpC L p v L') : FrontC L' (fun q w => S q w ∨ (q = p ∧ w = v)) := by
  obtain ⟨h1, h2, h3⟩ := h
  rcases hk with ⟨⟨e, k1, k2⟩, rfl⟩ | ⟨k, b, rfl⟩
  · refine ⟨fun e he => .inl (h1 e he), fun q w hq => ?_, h3⟩
    rcases hq with hq | ⟨rfl, rfl⟩
    · exact h2 q w hq
    · exact ⟨e, k1, k2⟩
  · have hin : ∀ {e : CE}, e ∈ (L.filter fun e => !loseB p v e) ++ [⟨p, v, b⟩] → (e ∈ L ∧ ¬ (p ≤ e.p ∧ v ≤ e.v)) ∨ e = ⟨p, v, b⟩ := fun {e} he => by
      rcases List.mem_append.1 he with he | he
      · obtain ⟨g1, g2⟩ := List.mem_filter.1 he
        exact .inl ⟨g1, fun g => by rw [loseB_iff.2 g] at g2; cases g2⟩
      · exact .inr (List.mem_singleton.1 he)
    refine ⟨fun e he => ?_, fun q w hq => ?_, fun e he e' he' hlt => ?_⟩
    · rcases hin he with ⟨g, _⟩ | rfl
      · exact .inl (h1 e g)
      · exact .inr ⟨rfl, rfl⟩
    · rcases hq with hq | ⟨rfl, rfl⟩
      · obtain ⟨e, g1, g2, g3⟩ := h2 q w hq
        by_cases hl : p ≤ e.p ∧ v ≤ e.v
        · exact ⟨⟨p, v, b⟩, by simp, Nat.le_trans hl.1 g2, Rat.le_trans hl.2 g3⟩
        · refine ⟨e, List.mem_append_left _ (List.mem_filter.2 ⟨g1, ?_⟩), g2, g3⟩
          cases hb : loseB p v e with
          | false => rfl
          | true => exact absurd (loseB_iff.1 hb) hl
      · exact ⟨⟨q, w, b⟩, by simp, Nat.le_refl _, Rat.le_refl⟩
    · rcases hin he with ⟨g, g0⟩ | rfl <;> rcases hin he' with ⟨g', g0'⟩ | rfl
      · exact h3 e g e' g' hlt
      · have := k e g
        simp only at hlt ⊢
        exact Rat.not_le.1 fun hc => this ⟨by omega, hc⟩
      · simp only at hlt ⊢
        exact Rat.not_le.1 fun hc => g0' ⟨by omega, hc⟩
      · simp only at hlt; omega

theorem CutsOk.keep {L : List CE} {clk p : Nat} {v : Rat} (hL : CutsOk L clk) (hn : ∀ e ∈ L, ¬ (e.p ≤ p ∧ e.v ≤ v)) : CutsOk ((L.filter fun e => !loseB p v e) ++ [⟨p, v, clk⟩]) (clk + 1) ∧ ∀ e ∈ L.filter fun e => !loseB p v e, e.p ≠ p := by
  have hs : (L.filter fun e => !loseB p v e).Sublist L := List.filter_sublist
  have h0 := hL.sub hs
  have key : ∀ e ∈ L.filter fun e => !loseB p v e, e.p ≠ p := fun e he hp => by
    obtain ⟨g1, g2⟩ := List.mem_filter.1 he
    have h1 : ¬ e.v ≤ v := fun g => hn e g1 ⟨by omega, g⟩
    have h2 : loseB p v e = true := loseB_iff.2 ⟨by omega, Rat.le_of_lt (Rat.not_le.1 h1)⟩
    rw [h2] at g2; cases g2
  refine ⟨⟨?_, fun e he => ?_, ?_⟩, key⟩
  · rw [List.map_append, List.nodup_append]
    refine ⟨h0.1, by simp, fun a ha b hb => ?_⟩
    obtain ⟨e, g1, rfl⟩ := List.mem_map.1 ha
    simp only [List.map_cons, List.map_nil, List.mem_singleton] at hb; subst hb
    have := h0.2.1 e g1
    omega
  · rcases List.mem_append.1 he with he | he
    · have := h0.2.1 e he; omega
    · rw [List.mem_singleton] at he; subst he; simp
  · rw [List.map_append, List.nodup_append]
    refine ⟨h0.2.2, by simp, fun a ha b hb => ?_⟩
    obtain ⟨e, g1, rfl⟩ := List.mem_map.1 ha
    simp only [List.map_cons, List.map_nil, List.mem_singleton] at hb; subst hb
    exact key e g1

theorem go_nxC {P : Program} {A : Heap} {X : List Nat} {E : List (Nat × AV)} {S : Sig} {r : List MI} {K : St → Prop} {ob : Nat → Option OB} {d it m last clk : Nat} {seen : List Nat} {x : MX} {L : List CE} (hx : evE E x = some (.ptr it 0)) (hi : ItO ob it m clk seen last) (hm : MpO ob m (L.map ceM) clk) (hL : CutsOk L clk)
    (h2 : clk ≤ last) (h3 : (∀ e ∈ L, e.b ∈ seen) → GO P (A.obs ob) X ((d, .tuple [.bool false]) :: E) S r K)
    (h4 : ∀ e ∈ L, e.b ∉ seen → GO P (A.obs (seo ob it (obM (.iter m clk (seen ++ [e.b]) clk)))) X ((d, .tuple [.bool true, .int .i64 (e.p : Int), frV e.v]) :: E) S r K) : GO P (A.obs ob) X E S (⟨some d, none, .mq (.nx x)⟩ :: r) K := by
  refine go_nx hx hi hm (fun e he => ?_) h2 (fun hend => h3 fun e he => hend (ceM e) (List.mem_map.2 ⟨e, he, rfl⟩)) (fun e he hn => ?_)
  · obtain ⟨y, hy, rfl⟩ := List.mem_map.1 he
    exact hL.2.1 y hy
  · obtain ⟨y, hy, rfl⟩ := List.mem_map.1 he
    exact h4 y hy hn

theorem go_enC {P : Program} {A : Heap} {X : List Nat} {E : List (Nat × AV)} {S : Sig} {r : List MI} {K : St → Prop} {ob : Nat → Option OB} {d it m since clk : Nat} {seen : List Nat} {x : MX} {L : List CE} {e : CE} (hx : evE E x = some (.ptr it 0)) (hi : ItO ob it m since (seen ++ [e.b]) clk) (hm : MpO ob m (L.map ceM) clk) (hL : CutsOk L clk)
    (he : e ∈ L) (hk : GO P (A.obs ob) X ((d, .tuple [.int .i64 (e.p : Int), frV e.v]) :: E) S r K) : GO P (A.obs ob) X E S (⟨some d, none, .mq (.en x)⟩ :: r) K := by
  refine go_en (e := ceM e) hx hi hm (List.mem_map.2 ⟨e, he, rfl⟩) ?_ hk
  rw [List.map_map]
  exact hL.1

theorem cmR_le {p q : Rat} : cmR p q ≤ 0 ↔ p ≤ q := by
  rw [← Rat.not_lt, ← cmR_pos]; omega

theorem cmR_ge {p q : Rat} : 0 ≤ cmR p q ↔ q ≤ p := by
  rw [← Rat.not_lt, ← cmR_neg]; omega

theorem erase_map {α β : Type} {f : α → β} : ∀ {L : List α} {j : Nat}, (L.map f).eraseIdx j = (L.eraseIdx j).map f
  | [], _ => rfl
  | a :: L, 0 => rfl
  | a :: L, j + 1 => by rw [List.map_cons, List.eraseIdx_cons_succ, List.eraseIdx_cons_succ, List.map_cons, erase_map]

theorem keep_ok {H : Heap} {m0 clk p : Nat} {L : List CE} {v : Rat} (hm : MpO H.ob m0 (L.map ceM) clk) (hL : CutsOk L clk) (hp : p ≤ 1000) (hLp : ∀ e ∈ L, e.p ≤ 1000) (hf : ∀ e ∈ L, FitA e.v v) :
    ACalls Try.prog fn_impl_cuts_keep [.map m0, .int .i64 (p : Int), frV v] H fun r H' => r = .tuple [] ∧ (H.size ≤ H'.size ∧ ∀ i, i < H.size → H'.get i = H.get i) ∧ (∀ j, j ≠ m0 → H'.ob j = H.ob j) ∧ ∃ L' clk', MpO H'.ob m0 (L'.map ceM) clk' ∧ CutsOk L' clk' ∧ KpC L p v L' := by
  refine acalls_obs (R := fun r H' => r = .tuple [] ∧ ∃ ob, SOk (H.obs ob) [] [] H'.size H' ∧ ExO H.ob ob [m0] ∧ ∃ L' clk', MpO ob m0 (L'.map ceM) clk' ∧ CutsOk L' clk' ∧ KpC L p v L') ?_ ?_
  rotate_left
  · rintro r H' ⟨rfl, ob, h1, h2, L', clk', h3, h4, h5⟩
    have hob : H'.ob = ob := h1.le.ob
    refine ⟨fun j => if j = m0 then ob m0 else H.ob j, ⟨rfl, ⟨h1.le.size, fun i hi => h1.le.get i hi (by simp)⟩, fun j hj => by simp [hj], L', clk', mp_eq h3 (by simp), h4, h5⟩, fun i o hi => ?_⟩
    rw [hob]
    by_cases e : i = m0
    · subst e; simpa using hi
    · simp only [e, if_false] at hi; exact h2 i o (by simpa using e) hi
  refine code_impl_cuts_keep.go [] trivial (by simp) ?_
  unfold mc_impl_cuts_keep
  change GC Try.prog (H.obs H.ob) [] _ _ _ _
  (repeat (first | refine gst (hk := ?_) | (show GO _ _ _ _ _ (⟨some _, none, _⟩ :: _) _; first | refine go_op (hk := ?_) | (refine go_nw (hk := ?_); intro u; try simp only [llc, lln, lna, lza]) | (refine go_np (hk := ?_); intro id)) | (show GO _ _ _ _ _ (⟨none, none, _⟩ :: _) _; refine go_st (hk := ?_)) | (show GO _ _ _ _ _ (⟨_, some _, _⟩ :: _) _; first | refine go_in (hk := ?_) | refine go_out (hk := ?_) | refine go_void (hk := ?_)) | (show GK _ _ _ _ (blockK _ _ _); refine gk_past rfl ?_) | (show GC _ _ _ _ _ (.cond _ _ _) _; first | refine gc_yes (h1 := ?_) | refine gc_no (h1 := ?_))))
  revert id; intro i5
  refine go_rg rfl hm (fun it hit => ?_)
  have x0 : H.ob it = none := hit
  (repeat (first | refine gst (hk := ?_) | (show GO _ _ _ _ _ (⟨some _, none, _⟩ :: _) _; first | refine go_op (hk := ?_) | (refine go_nw (hk := ?_); intro u; try simp only [llc, lln, lna, lza]) | (refine go_np (hk := ?_); intro id)) | (show GO _ _ _ _ _ (⟨none, none, _⟩ :: _) _; refine go_st (hk := ?_)) | (show GO _ _ _ _ _ (⟨_, some _, _⟩ :: _) _; first | refine go_in (hk := ?_) | refine go_out (hk := ?_) | refine go_void (hk := ?_)) | (show GK _ _ _ _ (blockK _ _ _); refine gk_past rfl ?_) | (show GC _ _ _ _ _ (.cond _ _ _) _; first | refine gc_yes (h1 := ?_) | refine gc_no (h1 := ?_))))
  refine gc_loopA (γ := (Nat → Option OB) × List Nat × Nat) (fun g => g.1) (fun g => [(0, .map m0), (1, .int .i64 (p : Int)), (5, .ptr i5 0), (11, .ptr it 0)]) (fun _ => [celF i5 v])
    (fun g => MpO g.1 m0 (L.map ceM) clk ∧ ItO g.1 it m0 clk g.2.1 g.2.2 ∧ clk ≤ g.2.2 ∧ ExO H.ob g.1 [m0] ∧ GoneC L g.2.1 ∧ ∀ e ∈ L, e.b ∈ g.2.1 → ¬ (e.p ≤ p ∧ e.v ≤ v)) (fun g => L.length - g.2.1.length) (seo H.ob it (obM (.iter m0 clk [] clk)), [], clk)
    ⟨mp_other hm (mp_fresh hm hit), it_same, Nat.le_refl _, (ExO.refl _ _).new hit _, GoneC.nil L, fun e _ h => by simp at h⟩ (by (repeat (refine Cov.cons (by exact rfl) ?_)); exact Cov.nil) (by exact Sub.auto) ?_
  rintro ⟨ob, seen, last⟩ ⟨g1, g2, g3, g4, g5, g6⟩ I ν mm hk
  dsimp only at g1 g2 g3 g4 g5 g6 hk ⊢
  (repeat (first | refine gst (hk := ?_) | (show GO _ _ _ _ _ (⟨some _, none, _⟩ :: _) _; first | refine go_op (hk := ?_) | (refine go_nw (hk := ?_); intro u; try simp only [llc, lln, lna, lza]) | (refine go_np (hk := ?_); intro id)) | (show GO _ _ _ _ _ (⟨none, none, _⟩ :: _) _; refine go_st (hk := ?_)) | (show GO _ _ _ _ _ (⟨_, some _, _⟩ :: _) _; first | refine go_in (hk := ?_) | refine go_out (hk := ?_) | refine go_void (hk := ?_)) | (show GK _ _ _ _ (blockK _ _ _); refine gk_past rfl ?_) | (show GC _ _ _ _ _ (.cond _ _ _) _; first | refine gc_yes (h1 := ?_) | refine gc_no (h1 := ?_))))
  refine go_nxC rfl g2 g1 hL g3 (fun hend => ?_) (fun x hx hn => ?_)
  · have hall : ∀ e ∈ L, ¬ (e.p ≤ p ∧ e.v ≤ v) := fun e he => g6 e he (hend e he)
    obtain ⟨hL', hnk⟩ := hL.keep hall
    (repeat (first | refine gst (hk := ?_) | (show GO _ _ _ _ _ (⟨some _, none, _⟩ :: _) _; first | refine go_op (hk := ?_) | (refine go_nw (hk := ?_); intro u; try simp only [llc, lln, lna, lza]) | (refine go_np (hk := ?_); intro id)) | (show GO _ _ _ _ _ (⟨none, none, _⟩ :: _) _; refine go_st (hk := ?_)) | (show GO _ _ _ _ _ (⟨_, some _, _⟩ :: _) _; first | refine go_in (hk := ?_) | refine go_out (hk := ?_) | refine go_void (hk := ?_)) | (show GK _ _ _ _ (blockK _ _ _); refine gk_past rfl ?_) | (show GC _ _ _ _ _ (.cond _ _ _) _; first | refine gc_yes (h1 := ?_) | refine gc_no (h1 := ?_))))
    refine go_rg rfl g1 (fun it2 hit2 => ?_)
    have hme : it2 ≠ m0 := (mp_fresh g1 hit2).symm
    have x2 : H.ob it2 = none := g4.gone (by simpa using hme) hit2
    (repeat (first | refine gst (hk := ?_) | (show GO _ _ _ _ _ (⟨some _, none, _⟩ :: _) _; first | refine go_op (hk := ?_) | (refine go_nw (hk := ?_); intro u; try simp only [llc, lln, lna, lza]) | (refine go_np (hk := ?_); intro id)) | (show GO _ _ _ _ _ (⟨none, none, _⟩ :: _) _; refine go_st (hk := ?_)) | (show GO _ _ _ _ _ (⟨_, some _, _⟩ :: _) _; first | refine go_in (hk := ?_) | refine go_out (hk := ?_) | refine go_void (hk := ?_)) | (show GK _ _ _ _ (blockK _ _ _); refine gk_past rfl ?_) | (show GC _ _ _ _ _ (.cond _ _ _) _; first | refine gc_yes (h1 := ?_) | refine gc_no (h1 := ?_))))
    refine gc_loopA (γ := (Nat → Option OB) × List Nat × Nat) (fun g => g.1) (fun g => [(0, .map m0), (1, .int .i64 (p : Int)), (5, .ptr i5 0), (27, .ptr it2 0)]) (fun _ => [celF i5 v])
      (fun g => MpO g.1 m0 ((flC L p v g.2.1).map ceM) clk ∧ ItO g.1 it2 m0 clk g.2.1 g.2.2 ∧ clk ≤ g.2.2 ∧ ExO H.ob g.1 [m0] ∧ GoneC L g.2.1) (fun g => L.length - g.2.1.length) (seo ob it2 (obM (.iter m0 clk [] clk)), [], clk)
      ⟨by rw [flC_nil]; exact mp_other g1 (mp_fresh g1 hit2), it_same, Nat.le_refl _, g4.new hit2 _, GoneC.nil L⟩ (by (repeat (refine Cov.cons (by exact rfl) ?_)); exact Cov.nil) (by exact Sub.auto) ?_
    rintro ⟨ob', seen', last'⟩ ⟨f1, f2, f3, f4, f5⟩ I' ν' mm' hk'
    dsimp only at f1 f2 f3 f4 f5 hk' ⊢
    have hsub := flC_sub L p v seen'
    have hLs := hL.sub hsub
    (repeat (first | refine gst (hk := ?_) | (show GO _ _ _ _ _ (⟨some _, none, _⟩ :: _) _; first | refine go_op (hk := ?_) | (refine go_nw (hk := ?_); intro u; try simp only [llc, lln, lna, lza]) | (refine go_np (hk := ?_); intro id)) | (show GO _ _ _ _ _ (⟨none, none, _⟩ :: _) _; refine go_st (hk := ?_)) | (show GO _ _ _ _ _ (⟨_, some _, _⟩ :: _) _; first | refine go_in (hk := ?_) | refine go_out (hk := ?_) | refine go_void (hk := ?_)) | (show GK _ _ _ _ (blockK _ _ _); refine gk_past rfl ?_) | (show GC _ _ _ _ _ (.cond _ _ _) _; first | refine gc_yes (h1 := ?_) | refine gc_no (h1 := ?_))))
    refine go_nxC rfl f2 f1 hLs f3 (fun hend2 => ?_) (fun y hy hny => ?_)
    · rw [flC_end hend2] at f1
      (repeat (first | refine gst (hk := ?_) | (show GO _ _ _ _ _ (⟨some _, none, _⟩ :: _) _; first | refine go_op (hk := ?_) | (refine go_nw (hk := ?_); intro u; try simp only [llc, lln, lna, lza]) | (refine go_np (hk := ?_); intro id)) | (show GO _ _ _ _ _ (⟨none, none, _⟩ :: _) _; refine go_st (hk := ?_)) | (show GO _ _ _ _ _ (⟨_, some _, _⟩ :: _) _; first | refine go_in (hk := ?_) | refine go_out (hk := ?_) | refine go_void (hk := ?_)) | (show GK _ _ _ _ (blockK _ _ _); refine gk_past rfl ?_) | (show GC _ _ _ _ _ (.cond _ _ _) _; first | refine gc_yes (h1 := ?_) | refine gc_no (h1 := ?_))))
      refine go_up rfl rfl rfl f1 (findA_no 0 hnk) ?_
      (repeat (first | refine gst (hk := ?_) | (show GO _ _ _ _ _ (⟨some _, none, _⟩ :: _) _; first | refine go_op (hk := ?_) | (refine go_nw (hk := ?_); intro u; try simp only [llc, lln, lna, lza]) | (refine go_np (hk := ?_); intro id)) | (show GO _ _ _ _ _ (⟨none, none, _⟩ :: _) _; refine go_st (hk := ?_)) | (show GO _ _ _ _ _ (⟨_, some _, _⟩ :: _) _; first | refine go_in (hk := ?_) | refine go_out (hk := ?_) | refine go_void (hk := ?_)) | (show GK _ _ _ _ (blockK _ _ _); refine gk_past rfl ?_) | (show GC _ _ _ _ _ (.cond _ _ _) _; first | refine gc_yes (h1 := ?_) | refine gc_no (h1 := ?_))))
      exact gk_retn rfl fun H' hH => ⟨rfl, _, hH.sub Sub.nil, f4.mod (.inr (by simp)) _, (L.filter fun e => !loseB p v e) ++ [⟨p, v, clk⟩], clk + 1, by rw [List.map_append]; exact mp_same, hL', .inr ⟨hall, clk, rfl⟩⟩
    · have hyL := hsub.subset hy
      have ne2 := mp_it f1 f2
      have yp := hLp y hyL
      (repeat (first | refine gst (hk := ?_) | (show GO _ _ _ _ _ (⟨some _, none, _⟩ :: _) _; first | refine go_op (hk := ?_) | (refine go_nw (hk := ?_); intro u; try simp only [llc, lln, lna, lza]) | (refine go_np (hk := ?_); intro id)) | (show GO _ _ _ _ _ (⟨none, none, _⟩ :: _) _; refine go_st (hk := ?_)) | (show GO _ _ _ _ _ (⟨_, some _, _⟩ :: _) _; first | refine go_in (hk := ?_) | refine go_out (hk := ?_) | refine go_void (hk := ?_)) | (show GK _ _ _ _ (blockK _ _ _); refine gk_past rfl ?_) | (show GC _ _ _ _ _ (.cond _ _ _) _; first | refine gc_yes (h1 := ?_) | refine gc_no (h1 := ?_))))
      refine go_enC rfl it_same (mp_other f1 ne2) hLs hy ?_
      (repeat (first | refine gst (hk := ?_) | (show GO _ _ _ _ _ (⟨some _, none, _⟩ :: _) _; first | refine go_op (hk := ?_) | (refine go_nw (hk := ?_); intro u; try simp only [llc, lln, lna, lza]) | (refine go_np (hk := ?_); intro id)) | (show GO _ _ _ _ _ (⟨none, none, _⟩ :: _) _; refine go_st (hk := ?_)) | (show GO _ _ _ _ _ (⟨_, some _, _⟩ :: _) _; first | refine go_in (hk := ?_) | refine go_out (hk := ?_) | refine go_void (hk := ?_)) | (show GK _ _ _ _ (blockK _ _ _); refine gk_past rfl ?_) | (show GC _ _ _ _ _ (.cond _ _ _) _; first | refine gc_yes (h1 := ?_) | refine gc_no (h1 := ?_))))
      have stay : loseB p v y = false → _ := fun hl =>
        hk' (seo ob' it2 (obM (.iter m0 clk (seen' ++ [y.b]) clk)), seen' ++ [y.b], clk) ⟨by rw [flC_keep hL hyL hl]; exact mp_other f1 ne2, it_same, Nat.le_refl _, f4.mod (.inl x2) _, f5.snoc hyL hny⟩ (f5.lt hyL hny)
      have nol : ¬ (p ≤ y.p ∧ v ≤ y.v) → loseB p v y = false := fun h => by
        cases hb : loseB p v y with
        | false => rfl
        | true => exact absurd (loseB_iff.1 hb) h
      refine go_split 36 rfl (fun h1 => ?_) (fun h1 => ?_)
      · (repeat (first | refine gst (hk := ?_) | (show GO _ _ _ _ _ (⟨some _, none, _⟩ :: _) _; first | refine go_op (hk := ?_) | (refine go_nw (hk := ?_); intro u; try simp only [llc, lln, lna, lza]) | (refine go_np (hk := ?_); intro id)) | (show GO _ _ _ _ _ (⟨none, none, _⟩ :: _) _; refine go_st (hk := ?_)) | (show GO _ _ _ _ _ (⟨_, some _, _⟩ :: _) _; first | refine go_in (hk := ?_) | refine go_out (hk := ?_) | refine go_void (hk := ?_)) | (show GK _ _ _ _ (blockK _ _ _); refine gk_past rfl ?_) | (show GC _ _ _ _ _ (.cond _ _ _) _; first | refine gc_yes (h1 := ?_) | refine gc_no (h1 := ?_))))
        refine go_callp rfl code_impl_Frac_compare.callable (fun H hH => implCompare_ok (p := y.v) (q := v) (hf y hyL)) ?_
        (repeat (first | refine gst (hk := ?_) | (show GO _ _ _ _ _ (⟨some _, none, _⟩ :: _) _; first | refine go_op (hk := ?_) | (refine go_nw (hk := ?_); intro u; try simp only [llc, lln, lna, lza]) | (refine go_np (hk := ?_); intro id)) | (show GO _ _ _ _ _ (⟨none, none, _⟩ :: _) _; refine go_st (hk := ?_)) | (show GO _ _ _ _ _ (⟨_, some _, _⟩ :: _) _; first | refine go_in (hk := ?_) | refine go_out (hk := ?_) | refine go_void (hk := ?_)) | (show GK _ _ _ _ (blockK _ _ _); refine gk_past rfl ?_) | (show GC _ _ _ _ _ (.cond _ _ _) _; first | refine gc_yes (h1 := ?_) | refine gc_no (h1 := ?_))))
        refine gc_cond rfl (fun h2 => ?_) (fun h2 => ?_)
        · have hl : loseB p v y = true := loseB_iff.2 ⟨by omega, cmR_ge.1 h2⟩
          obtain ⟨j, hj⟩ := List.mem_iff_getElem?.1 hy
          have hfa := findA_at 0 hLs.2.2 hj
          rw [Nat.zero_add] at hfa
          (repeat (first | refine gst (hk := ?_) | (show GO _ _ _ _ _ (⟨some _, none, _⟩ :: _) _; first | refine go_op (hk := ?_) | (refine go_nw (hk := ?_); intro u; try simp only [llc, lln, lna, lza]) | (refine go_np (hk := ?_); intro id)) | (show GO _ _ _ _ _ (⟨none, none, _⟩ :: _) _; refine go_st (hk := ?_)) | (show GO _ _ _ _ _ (⟨_, some _, _⟩ :: _) _; first | refine go_in (hk := ?_) | refine go_out (hk := ?_) | refine go_void (hk := ?_)) | (show GK _ _ _ _ (blockK _ _ _); refine gk_past rfl ?_) | (show GC _ _ _ _ _ (.cond _ _ _) _; first | refine gc_yes (h1 := ?_) | refine gc_no (h1 := ?_))))
          refine go_dl rfl rfl (mp_other f1 ne2) hfa ?_
          rw [erase_map, flC_erase hL hj hl]
          (repeat (first | refine gst (hk := ?_) | (show GO _ _ _ _ _ (⟨some _, none, _⟩ :: _) _; first | refine go_op (hk := ?_) | (refine go_nw (hk := ?_); intro u; try simp only [llc, lln, lna, lza]) | (refine go_np (hk := ?_); intro id)) | (show GO _ _ _ _ _ (⟨none, none, _⟩ :: _) _; refine go_st (hk := ?_)) | (show GO _ _ _ _ _ (⟨_, some _, _⟩ :: _) _; first | refine go_in (hk := ?_) | refine go_out (hk := ?_) | refine go_void (hk := ?_)) | (show GK _ _ _ _ (blockK _ _ _); refine gk_past rfl ?_) | (show GC _ _ _ _ _ (.cond _ _ _) _; first | refine gc_yes (h1 := ?_) | refine gc_no (h1 := ?_))))
          exact gk_next (hk' (seo (seo ob' it2 (obM (.iter m0 clk (seen' ++ [y.b]) clk))) m0 (obM (.map ((flC L p v (seen' ++ [y.b])).map ceM) clk)), seen' ++ [y.b], clk) ⟨mp_same, it_other it_same ne2.symm, Nat.le_refl _, (f4.mod (.inl x2) _).mod (.inr (by simp)) _, f5.snoc hyL hny⟩ (f5.lt hyL hny))
        · (repeat (first | refine gst (hk := ?_) | (show GO _ _ _ _ _ (⟨some _, none, _⟩ :: _) _; first | refine go_op (hk := ?_) | (refine go_nw (hk := ?_); intro u; try simp only [llc, lln, lna, lza]) | (refine go_np (hk := ?_); intro id)) | (show GO _ _ _ _ _ (⟨none, none, _⟩ :: _) _; refine go_st (hk := ?_)) | (show GO _ _ _ _ _ (⟨_, some _, _⟩ :: _) _; first | refine go_in (hk := ?_) | refine go_out (hk := ?_) | refine go_void (hk := ?_)) | (show GK _ _ _ _ (blockK _ _ _); refine gk_past rfl ?_) | (show GC _ _ _ _ _ (.cond _ _ _) _; first | refine gc_yes (h1 := ?_) | refine gc_no (h1 := ?_))))
          exact gk_next (stay (nol fun h => h2 (cmR_ge.2 h.2)))
      · (repeat (first | refine gst (hk := ?_) | (show GO _ _ _ _ _ (⟨some _, none, _⟩ :: _) _; first | refine go_op (hk := ?_) | (refine go_nw (hk := ?_); intro u; try simp only [llc, lln, lna, lza]) | (refine go_np (hk := ?_); intro id)) | (show GO _ _ _ _ _ (⟨none, none, _⟩ :: _) _; refine go_st (hk := ?_)) | (show GO _ _ _ _ _ (⟨_, some _, _⟩ :: _) _; first | refine go_in (hk := ?_) | refine go_out (hk := ?_) | refine go_void (hk := ?_)) | (show GK _ _ _ _ (blockK _ _ _); refine gk_past rfl ?_) | (show GC _ _ _ _ _ (.cond _ _ _) _; first | refine gc_yes (h1 := ?_) | refine gc_no (h1 := ?_))))
        exact gk_next (stay (nol fun h => by omega))
  · have ne1 := mp_it g1 g2
    have xp := hLp x hx
    have hnext : ¬ (x.p ≤ p ∧ x.v ≤ v) → _ := fun hb =>
      hk (seo ob it (obM (.iter m0 clk (seen ++ [x.b]) clk)), seen ++ [x.b], clk) ⟨mp_other g1 ne1, it_same, Nat.le_refl _, g4.mod (.inl x0) _, g5.snoc hx hn, fun e he hb' => by
        rcases List.mem_append.1 hb' with h | h
        · exact g6 e he h
        · obtain rfl := map_inj hL.1 he hx (List.mem_singleton.1 h)
          exact hb⟩ (g5.lt hx hn)
    (repeat (first | refine gst (hk := ?_) | (show GO _ _ _ _ _ (⟨some _, none, _⟩ :: _) _; first | refine go_op (hk := ?_) | (refine go_nw (hk := ?_); intro u; try simp only [llc, lln, lna, lza]) | (refine go_np (hk := ?_); intro id)) | (show GO _ _ _ _ _ (⟨none, none, _⟩ :: _) _; refine go_st (hk := ?_)) | (show GO _ _ _ _ _ (⟨_, some _, _⟩ :: _) _; first | refine go_in (hk := ?_) | refine go_out (hk := ?_) | refine go_void (hk := ?_)) | (show GK _ _ _ _ (blockK _ _ _); refine gk_past rfl ?_) | (show GC _ _ _ _ _ (.cond _ _ _) _; first | refine gc_yes (h1 := ?_) | refine gc_no (h1 := ?_))))
    refine go_enC rfl it_same (mp_other g1 ne1) hL hx ?_
    (repeat (first | refine gst (hk := ?_) | (show GO _ _ _ _ _ (⟨some _, none, _⟩ :: _) _; first | refine go_op (hk := ?_) | (refine go_nw (hk := ?_); intro u; try simp only [llc, lln, lna, lza]) | (refine go_np (hk := ?_); intro id)) | (show GO _ _ _ _ _ (⟨none, none, _⟩ :: _) _; refine go_st (hk := ?_)) | (show GO _ _ _ _ _ (⟨_, some _, _⟩ :: _) _; first | refine go_in (hk := ?_) | refine go_out (hk := ?_) | refine go_void (hk := ?_)) | (show GK _ _ _ _ (blockK _ _ _); refine gk_past rfl ?_) | (show GC _ _ _ _ _ (.cond _ _ _) _; first | refine gc_yes (h1 := ?_) | refine gc_no (h1 := ?_))))
    refine go_split 20 rfl (fun h1 => ?_) (fun h1 => ?_)
    · (repeat (first | refine gst (hk := ?_) | (show GO _ _ _ _ _ (⟨some _, none, _⟩ :: _) _; first | refine go_op (hk := ?_) | (refine go_nw (hk := ?_); intro u; try simp only [llc, lln, lna, lza]) | (refine go_np (hk := ?_); intro id)) | (show GO _ _ _ _ _ (⟨none, none, _⟩ :: _) _; refine go_st (hk := ?_)) | (show GO _ _ _ _ _ (⟨_, some _, _⟩ :: _) _; first | refine go_in (hk := ?_) | refine go_out (hk := ?_) | refine go_void (hk := ?_)) | (show GK _ _ _ _ (blockK _ _ _); refine gk_past rfl ?_) | (show GC _ _ _ _ _ (.cond _ _ _) _; first | refine gc_yes (h1 := ?_) | refine gc_no (h1 := ?_))))
      refine go_callp rfl code_impl_Frac_compare.callable (fun H hH => implCompare_ok (p := x.v) (q := v) (hf x hx)) ?_
      (repeat (first | refine gst (hk := ?_) | (show GO _ _ _ _ _ (⟨some _, none, _⟩ :: _) _; first | refine go_op (hk := ?_) | (refine go_nw (hk := ?_); intro u; try simp only [llc, lln, lna, lza]) | (refine go_np (hk := ?_); intro id)) | (show GO _ _ _ _ _ (⟨none, none, _⟩ :: _) _; refine go_st (hk := ?_)) | (show GO _ _ _ _ _ (⟨_, some _, _⟩ :: _) _; first | refine go_in (hk := ?_) | refine go_out (hk := ?_) | refine go_void (hk := ?_)) | (show GK _ _ _ _ (blockK _ _ _); refine gk_past rfl ?_) | (show GC _ _ _ _ _ (.cond _ _ _) _; first | refine gc_yes (h1 := ?_) | refine gc_no (h1 := ?_))))
      refine gc_cond rfl (fun h2 => ?_) (fun h2 => ?_)
      · (repeat (first | refine gst (hk := ?_) | (show GO _ _ _ _ _ (⟨some _, none, _⟩ :: _) _; first | refine go_op (hk := ?_) | (refine go_nw (hk := ?_); intro u; try simp only [llc, lln, lna, lza]) | (refine go_np (hk := ?_); intro id)) | (show GO _ _ _ _ _ (⟨none, none, _⟩ :: _) _; refine go_st (hk := ?_)) | (show GO _ _ _ _ _ (⟨_, some _, _⟩ :: _) _; first | refine go_in (hk := ?_) | refine go_out (hk := ?_) | refine go_void (hk := ?_)) | (show GK _ _ _ _ (blockK _ _ _); refine gk_past rfl ?_) | (show GC _ _ _ _ _ (.cond _ _ _) _; first | refine gc_yes (h1 := ?_) | refine gc_no (h1 := ?_))))
        exact gk_ret rfl fun H' hH => ⟨rfl, _, hH.sub Sub.nil, g4.mod (.inl x0) _, L, clk, mp_other g1 ne1, hL, .inl ⟨⟨x, hx, by omega, cmR_le.1 h2⟩, rfl⟩⟩
      · (repeat (first | refine gst (hk := ?_) | (show GO _ _ _ _ _ (⟨some _, none, _⟩ :: _) _; first | refine go_op (hk := ?_) | (refine go_nw (hk := ?_); intro u; try simp only [llc, lln, lna, lza]) | (refine go_np (hk := ?_); intro id)) | (show GO _ _ _ _ _ (⟨none, none, _⟩ :: _) _; refine go_st (hk := ?_)) | (show GO _ _ _ _ _ (⟨_, some _, _⟩ :: _) _; first | refine go_in (hk := ?_) | refine go_out (hk := ?_) | refine go_void (hk := ?_)) | (show GK _ _ _ _ (blockK _ _ _); refine gk_past rfl ?_) | (show GC _ _ _ _ _ (.cond _ _ _) _; first | refine gc_yes (h1 := ?_) | refine gc_no (h1 := ?_))))
        exact gk_next (hnext fun h => h2 (cmR_le.2 h.2))
    · (repeat (first | refine gst (hk := ?_) | (show GO _ _ _ _ _ (⟨some _, none, _⟩ :: _) _; first | refine go_op (hk := ?_) | (refine go_nw (hk := ?_); intro u; try simp only [llc, lln, lna, lza]) | (refine go_np (hk := ?_); intro id)) | (show GO _ _ _ _ _ (⟨none, none, _⟩ :: _) _; refine go_st (hk := ?_)) | (show GO _ _ _ _ _ (⟨_, some _, _⟩ :: _) _; first | refine go_in (hk := ?_) | refine go_out (hk := ?_) | refine go_void (hk := ?_)) | (show GK _ _ _ _ (blockK _ _ _); refine gk_past rfl ?_) | (show GC _ _ _ _ _ (.cond _ _ _) _; first | refine gc_yes (h1 := ?_) | refine gc_no (h1 := ?_))))
      exact gk_next (hnext fun h => by omega)

/-- objects that are not needed any more are forgotten -/
theorem acalls_plain {P : Program} {f : FuncId} {args : List AV} {H : Heap} {R : AV → Prop} (h : ACalls P f args H fun r H' => R r ∧ ∃ ob S, SOk (H.obs ob) [] S H'.size H' ∧ ExO H.ob ob []) (hp : ∀ r, R r → r.plain = true) : ACalls P f args H fun r H' => R r ∧ H' = H := by
  refine ACalls.trace (acalls_obs h ?_) hp
  rintro r H' ⟨hr, ob, S, h1, h2⟩
  have hob : H'.ob = ob := h1.le.ob
  exact ⟨H.ob, ⟨hr, h1.le.size, fun i hi => h1.le.get i hi (by simp), rfl⟩, fun i o hi => by rw [hob]; exact h2 i o (by simp) hi⟩

def SC (c : Nat → Nat → Rat) (i q : Nat) (v : Rat) : Prop := (i = 0 ∧ q = 0 ∧ v = 0) ∨ Cuts (· + ·) c q 0 i v

def TC (c : Nat → Nat → Rat) (i e q : Nat) (v : Rat) : Prop := ∃ s, s < i ∧ ∃ q' v', SC c s q' v' ∧ q = q' + 1 ∧ v = v' + c s e

theorem TC.sc {c : Nat → Nat → Rat} {i e q : Nat} {v : Rat} (h : TC c i e q v) (hi : i ≤ e) : SC c e q v := by
  obtain ⟨s, h1, q', v', h2, rfl, rfl⟩ := h
  refine .inr ?_
  rcases h2 with ⟨rfl, rfl, rfl⟩ | h2
  · rw [Rat.zero_add]; exact .one (by omega)
  · exact .snoc h2 (by omega)

theorem SC.tc {c : Nat → Nat → Rat} {e q : Nat} {v : Rat} (h : SC c e q v) (he : 1 ≤ e) : TC c e e q v := by
  rcases h with ⟨rfl, _, _⟩ | h
  · omega
  · cases h with
    | one h => exact ⟨0, he, 0, 0, .inl ⟨rfl, rfl, rfl⟩, rfl, by rw [Rat.zero_add]⟩
    | snoc h hk => exact ⟨_, hk, _, _, .inr h, rfl, rfl⟩

theorem FrontC.weaken {L : List CE} {S S' : Nat → Rat → Prop} (h : FrontC L S) (h1 : ∀ q v, S q v → S' q v) (h2 : ∀ q v, S' q v → ∃ q0 v0, S q0 v0 ∧ q0 ≤ q ∧ v0 ≤ v) : FrontC L S' := by
  obtain ⟨g1, g2, g3⟩ := h
  refine ⟨fun e he => h1 _ _ (g1 e he), fun q v hq => ?_, g3⟩
  obtain ⟨q0, v0, k1, k2, k3⟩ := h2 q v hq
  obtain ⟨e, m1, m2, m3⟩ := g2 q0 v0 k1
  exact ⟨e, m1, by omega, Rat.le_trans m3 k3⟩

theorem FrontC.same {L : List CE} {S S' : Nat → Rat → Prop} (h : FrontC L S) (h1 : ∀ q v, S q v ↔ S' q v) : FrontC L S' := h.weaken (fun q v => (h1 q v).1) (fun q v hq => ⟨q, v, (h1 q v).2 hq, Nat.le_refl _, Rat.le_refl⟩)

def GoodM (c : Nat → Nat → Rat) (ob : Nat → Option OB) (m i : Nat) : Prop := ∃ L clk, MpO ob m (L.map ceM) clk ∧ CutsOk L clk ∧ FrontC L (SC c i)

theorem GoodM.seo {c : Nat → Nat → Rat} {ob : Nat → Option OB} {m i id : Nat} {o : OB} (h : GoodM c ob m i) (hn : m ≠ id) : GoodM c (seo ob id o) m i := by
  obtain ⟨L, clk, h1, h2⟩ := h
  exact ⟨L, clk, mp_other h1 hn, h2⟩

theorem GoodM.eq {c : Nat → Nat → Rat} {ob ob' : Nat → Option OB} {m i : Nat} (h : GoodM c ob m i) (hn : ob' m = ob m) : GoodM c ob' m i := by
  obtain ⟨L, clk, h1, h2⟩ := h
  exact ⟨L, clk, mp_eq h1 hn, h2⟩

theorem nthV_map {ms : List Nat} {i m : Nat} (h : ms[i]? = some m) : nthV (ms.map AV.map) i = .map m := by
  have hi := (List.getElem?_eq_some_iff.1 h).1
  rw [show nthV (ms.map AV.map) i = (ms.map AV.map)[i]'(by rw [List.length_map]; exact hi) from nthA_of _]
  simp [(List.getElem?_eq_some_iff.1 h).2]

theorem fd_zero {D B : Int} (hD : 0 < D) (hB : 0 ≤ B) : FD 0 D B := ⟨hD, 0, by rw [Rat.zero_mul]; rfl, by omega, hB⟩

theorem go_callO {P : Program} {A : Heap} {X : List Nat} {E : List (Nat × AV)} {S : Sig} {r : List MI} {K : St → Prop} {ob : Nat → Option OB} {d : Nat} {f : FuncId} {args : List MX} {vs : List AV} {v : AV} {Φ : (Nat → Option OB) → Prop} (ha : evsE E args = some vs) (hc : Callable P f)
    (h : ∀ H, SOk (A.obs ob) X S H.size H → ACalls P f vs H fun r H' => r = v ∧ (H.size ≤ H'.size ∧ ∀ i, i < H.size → H'.get i = H.get i) ∧ Φ H'.ob) (hk : ∀ ob', Φ ob' → GO P (A.obs ob') X ((d, v) :: E) S r K) : GO P (A.obs ob) X E S (⟨some d, none, .call f args⟩ :: r) K :=
  go_callA (γ := Nat → Option OB) (O := fun g => g) (V := fun _ => v) (T := fun _ => S) (Φ := Φ) ha hc (fun H hH => (h H hH).mono fun r H' ⟨h1, h2, h3⟩ => ⟨H'.ob, h1, sok_leO hH h2.1 h2.2 rfl, h3⟩) hk

theorem it_eq {ob ob' : Nat → Option OB} {id m since last : Nat} {seen : List Nat} (h : ItO ob id m since seen last) (he : ob' id = ob id) : ItO ob' id m since seen last := by
  obtain ⟨x, h1, h2⟩ := h
  exact ⟨x, by rw [he]; exact h1, h2⟩

theorem ExO.eq {ob0 ob ob' : Nat → Option OB} {I : List Nat} (h : ExO ob0 ob I) {id : Nat} (hn : ob0 id = none) (he : ∀ j, j ≠ id → ob' j = ob j) : ExO ob0 ob' I := fun j o h1 h2 => by
  rw [he j (by rintro rfl; rw [hn] at h2; cases h2)]; exact h j o h1 h2

theorem bestCuts_ok {f : FuncId} {c : Nat → Nat → Rat} {H : Heap} {a : AV} {xs : List Int} (ha : Ints H a xs) (hS : Steps xs) (hcf : Callable Try.prog f)
    (hf : ∀ {H1 : Heap} {b : AV} {s k : Nat}, s < k → k ≤ xs.length → Ints H1 b (winL xs s k) → ACalls Try.prog f [b] H1 fun r H' => r = frV (c s k) ∧ Le H1 H')
    (hfd : ∀ q k v, Cuts (· + ·) c q 0 k v → k ≤ xs.length → FD v 840 1000000000) (hfc : ∀ s k, s < k → k ≤ xs.length → FD (c s k) 840 1000000000) :
    ACalls Try.prog fn_impl_bestCuts [a, .func f []] H fun r H' => ∃ m0 L clk, r = .map m0 ∧ (H.size ≤ H'.size ∧ ∀ i, i < H.size → H'.get i = H.get i) ∧ H.ob m0 = none ∧ (∀ j, j ≠ m0 → H'.ob j = H.ob j) ∧ MpO H'.ob m0 (L.map ceM) clk ∧ CutsOk L clk ∧ FrontC L (SC c xs.length) := by
  have hn := hS.2.2
  have hn1 := hS.2.1
  have scfd : ∀ {q k v}, SC c k q v → k ≤ xs.length → FD v 840 1000000000 ∧ q ≤ 8 := fun {q k v} h hk => by
    rcases h with ⟨_, rfl, rfl⟩ | h
    · exact ⟨fd_zero (by omega) (by omega), by omega⟩
    · have := h.lt
      exact ⟨hfd _ _ _ h hk, by omega⟩
  refine acalls_obs (R := fun r H' => ∃ m0 L clk, r = .map m0 ∧ ∃ ob S, SOk (H.obs ob) [] S H'.size H' ∧ ExO H.ob ob [] ∧ H.ob m0 = none ∧ MpO ob m0 (L.map ceM) clk ∧ CutsOk L clk ∧ FrontC L (SC c xs.length)) ?_ ?_
  rotate_left
  · rintro r H' ⟨m0, L, clk, rfl, ob, S, h1, h2, h0, h3, h4, h5⟩
    have hob : H'.ob = ob := h1.le.ob
    refine ⟨fun j => if j = m0 then ob m0 else H.ob j, ⟨m0, L, clk, rfl, ⟨h1.le.size, fun i hi => h1.le.get i hi (by simp)⟩, h0, fun j hj => by simp [hj], mp_eq h3 (by simp), h4, h5⟩, fun i o hi => ?_⟩
    rw [hob]
    by_cases e : i = m0
    · subst e; simpa using hi
    · simp only [e, if_false] at hi; exact h2 i o (by simp) hi
  refine code_impl_bestCuts.go [.roI a xs.length xs] ⟨⟨rfl, ha⟩, trivial⟩ (by simp) ?_
  unfold mc_impl_bestCuts
  change GC Try.prog (H.obs H.ob) [] _ _ _ _
  (repeat (first | refine gst (hk := ?_) | (show GO _ _ _ _ _ (⟨some _, none, _⟩ :: _) _; first | refine go_op (hk := ?_) | (refine go_nw (hk := ?_); intro u; try simp only [llc, lln, lna, lza]) | (refine go_np (hk := ?_); intro id)) | (show GO _ _ _ _ _ (⟨none, none, _⟩ :: _) _; refine go_st (hk := ?_)) | (show GO _ _ _ _ _ (⟨_, some _, _⟩ :: _) _; first | refine go_in (hk := ?_) | refine go_out (hk := ?_) | refine go_void (hk := ?_)) | (show GK _ _ _ _ (blockK _ _ _); refine gk_past rfl ?_) | (show GC _ _ _ _ _ (.cond _ _ _) _; first | refine gc_yes (h1 := ?_) | refine gc_no (h1 := ?_))))
  refine go_mk (fun m0 hm0 => ?_)
  (repeat (first | refine gst (hk := ?_) | (show GO _ _ _ _ _ (⟨some _, none, _⟩ :: _) _; first | refine go_op (hk := ?_) | (refine go_nw (hk := ?_); intro u; try simp only [llc, lln, lna, lza]) | (refine go_np (hk := ?_); intro id)) | (show GO _ _ _ _ _ (⟨none, none, _⟩ :: _) _; refine go_st (hk := ?_)) | (show GO _ _ _ _ _ (⟨_, some _, _⟩ :: _) _; first | refine go_in (hk := ?_) | refine go_out (hk := ?_) | refine go_void (hk := ?_)) | (show GK _ _ _ _ (blockK _ _ _); refine gk_past rfl ?_) | (show GC _ _ _ _ _ (.cond _ _ _) _; first | refine gc_yes (h1 := ?_) | refine gc_no (h1 := ?_))))
  refine go_callp rfl code_impl_whole.callable (fun H hH => implWhole_ok (n := 0)) ?_
  refine go_up rfl rfl rfl mp_same (by rfl) ?_
  (repeat (first | refine gst (hk := ?_) | (show GO _ _ _ _ _ (⟨some _, none, _⟩ :: _) _; first | refine go_op (hk := ?_) | (refine go_nw (hk := ?_); intro u; try simp only [llc, lln, lna, lza]) | (refine go_np (hk := ?_); intro id)) | (show GO _ _ _ _ _ (⟨none, none, _⟩ :: _) _; refine go_st (hk := ?_)) | (show GO _ _ _ _ _ (⟨_, some _, _⟩ :: _) _; first | refine go_in (hk := ?_) | refine go_out (hk := ?_) | refine go_void (hk := ?_)) | (show GK _ _ _ _ (blockK _ _ _); refine gk_past rfl ?_) | (show GC _ _ _ _ _ (.cond _ _ _) _; first | refine gc_yes (h1 := ?_) | refine gc_no (h1 := ?_))))
  refine go_new rfl (stp_bslv rfl rfl rfl) ?_
  intro v0
  (repeat (first | refine gst (hk := ?_) | (show GO _ _ _ _ _ (⟨some _, none, _⟩ :: _) _; first | refine go_op (hk := ?_) | (refine go_nw (hk := ?_); intro u; try simp only [llc, lln, lna, lza]) | (refine go_np (hk := ?_); intro id)) | (show GO _ _ _ _ _ (⟨none, none, _⟩ :: _) _; refine go_st (hk := ?_)) | (show GO _ _ _ _ _ (⟨_, some _, _⟩ :: _) _; first | refine go_in (hk := ?_) | refine go_out (hk := ?_) | refine go_void (hk := ?_)) | (show GK _ _ _ _ (blockK _ _ _); refine gk_past rfl ?_) | (show GC _ _ _ _ _ (.cond _ _ _) _; first | refine gc_yes (h1 := ?_) | refine gc_no (h1 := ?_))))
  have f0 : FrontC [⟨0, ((0 : Int) : Rat), 0⟩] (SC c 0) := by
    refine ⟨fun e he => ?_, fun p v hp => ?_, fun e he e' he' hlt => ?_⟩
    · rw [List.mem_singleton] at he; subst he; exact .inl ⟨rfl, rfl, rfl⟩
    · rcases hp with ⟨_, rfl, rfl⟩ | hp
      · exact ⟨_, List.mem_singleton.2 rfl, Nat.le_refl _, Rat.le_refl⟩
      · have := hp.lt; omega
    · rw [List.mem_singleton] at he he'; subst he; subst he'; simp at hlt
  refine gc_loopA (γ := (Nat → Option OB) × AV × List Nat) (fun g => g.1) (fun g => [(0, a), (1, .func f []), (5, g.2.1), (6, .int .i64 (g.2.2.length : Int))]) (fun g => [⟨.rw, g.2.1, 1, g.2.2.length, g.2.2.map AV.map⟩, .roI a xs.length xs])
    (fun g => 1 ≤ g.2.2.length ∧ g.2.2.length ≤ xs.length + 1 ∧ (∀ i m, g.2.2[i]? = some m → GoodM c g.1 m i) ∧ ExO H.ob g.1 [] ∧ ∀ m ∈ g.2.2, H.ob m = none) (fun g => xs.length + 1 - g.2.2.length)
    (_, v0, [m0]) ?_ (by (repeat (refine Cov.cons (by exact rfl) ?_)); exact Cov.nil) (by exact Sub.auto) ?_
  · refine ⟨by simp, by simp, fun i m h => ?_, ((ExO.refl _ _).new hm0 _).mod (.inl hm0) _, fun m h => by rw [List.mem_singleton.1 h]; exact hm0⟩
    cases i with
    | zero =>
      simp only [List.getElem?_cons_zero, Option.some.injEq] at h; subst h
      exact ⟨[⟨0, ((0 : Int) : Rat), 0⟩], 1, mp_same, ⟨by simp, by simp, by simp⟩, f0⟩
    | succ i => simp at h
  rintro ⟨ob, v, ms⟩ ⟨g1, g2, g3, g4, g5⟩ I ν mm hk
  dsimp only at g1 g2 g3 g4 g5 hk ⊢
  (repeat (first | refine gst (hk := ?_) | (show GO _ _ _ _ _ (⟨some _, none, _⟩ :: _) _; first | refine go_op (hk := ?_) | (refine go_nw (hk := ?_); intro u; try simp only [llc, lln, lna, lza]) | (refine go_np (hk := ?_); intro id)) | (show GO _ _ _ _ _ (⟨none, none, _⟩ :: _) _; refine go_st (hk := ?_)) | (show GO _ _ _ _ _ (⟨_, some _, _⟩ :: _) _; first | refine go_in (hk := ?_) | refine go_out (hk := ?_) | refine go_void (hk := ?_)) | (show GK _ _ _ _ (blockK _ _ _); refine gk_past rfl ?_) | (show GC _ _ _ _ _ (.cond _ _ _) _; first | refine gc_yes (h1 := ?_) | refine gc_no (h1 := ?_))))
  refine gc_cond rfl (fun h => ?_) (fun h => ?_)
  rotate_left
  · have el : ms.length = xs.length + 1 := by omega
    obtain ⟨m, hm⟩ : ∃ m, ms[xs.length]? = some m := ⟨ms[xs.length]'(by omega), List.getElem?_eq_getElem (by omega)⟩
    obtain ⟨L, clk, k1, k2, k3⟩ := g3 _ m hm
    (repeat (first | refine gst (hk := ?_) | (show GO _ _ _ _ _ (⟨some _, none, _⟩ :: _) _; first | refine go_op (hk := ?_) | (refine go_nw (hk := ?_); intro u; try simp only [llc, lln, lna, lza]) | (refine go_np (hk := ?_); intro id)) | (show GO _ _ _ _ _ (⟨none, none, _⟩ :: _) _; refine go_st (hk := ?_)) | (show GO _ _ _ _ _ (⟨_, some _, _⟩ :: _) _; first | refine go_in (hk := ?_) | refine go_out (hk := ?_) | refine go_void (hk := ?_)) | (show GK _ _ _ _ (blockK _ _ _); refine gk_past rfl ?_) | (show GC _ _ _ _ _ (.cond _ _ _) _; first | refine gc_yes (h1 := ?_) | refine gc_no (h1 := ?_))))
    refine go_is rfl (stp_ldV (i := xs.length) rfl (by exact Has.auto) (by simp) (by simp; omega)) ?_
    rw [nthV_map hm]
    (repeat (first | refine gst (hk := ?_) | (show GO _ _ _ _ _ (⟨some _, none, _⟩ :: _) _; first | refine go_op (hk := ?_) | (refine go_nw (hk := ?_); intro u; try simp only [llc, lln, lna, lza]) | (refine go_np (hk := ?_); intro id)) | (show GO _ _ _ _ _ (⟨none, none, _⟩ :: _) _; refine go_st (hk := ?_)) | (show GO _ _ _ _ _ (⟨_, some _, _⟩ :: _) _; first | refine go_in (hk := ?_) | refine go_out (hk := ?_) | refine go_void (hk := ?_)) | (show GK _ _ _ _ (blockK _ _ _); refine gk_past rfl ?_) | (show GC _ _ _ _ _ (.cond _ _ _) _; first | refine gc_yes (h1 := ?_) | refine gc_no (h1 := ?_))))
    exact gk_ret rfl fun H' hH => ⟨m, L, clk, rfl, _, _, hH, g4, g5 m (List.mem_of_getElem? hm), k1, k2, k3⟩
  (repeat (first | refine gst (hk := ?_) | (show GO _ _ _ _ _ (⟨some _, none, _⟩ :: _) _; first | refine go_op (hk := ?_) | (refine go_nw (hk := ?_); intro u; try simp only [llc, lln, lna, lza]) | (refine go_np (hk := ?_); intro id)) | (show GO _ _ _ _ _ (⟨none, none, _⟩ :: _) _; refine go_st (hk := ?_)) | (show GO _ _ _ _ _ (⟨_, some _, _⟩ :: _) _; first | refine go_in (hk := ?_) | refine go_out (hk := ?_) | refine go_void (hk := ?_)) | (show GK _ _ _ _ (blockK _ _ _); refine gk_past rfl ?_) | (show GC _ _ _ _ _ (.cond _ _ _) _; first | refine gc_yes (h1 := ?_) | refine gc_no (h1 := ?_))))
  refine go_mk (fun nx hnx => ?_)
  have x1 : H.ob nx = none := g4.gone (by simp) hnx
  have nin : ∀ {i m}, ms[i]? = some m → m ≠ nx := fun {i m} h => by
    obtain ⟨L, clk, k1, _⟩ := g3 i m h
    exact mp_fresh k1 hnx
  (repeat (first | refine gst (hk := ?_) | (show GO _ _ _ _ _ (⟨some _, none, _⟩ :: _) _; first | refine go_op (hk := ?_) | (refine go_nw (hk := ?_); intro u; try simp only [llc, lln, lna, lza]) | (refine go_np (hk := ?_); intro id)) | (show GO _ _ _ _ _ (⟨none, none, _⟩ :: _) _; refine go_st (hk := ?_)) | (show GO _ _ _ _ _ (⟨_, some _, _⟩ :: _) _; first | refine go_in (hk := ?_) | refine go_out (hk := ?_) | refine go_void (hk := ?_)) | (show GK _ _ _ _ (blockK _ _ _); refine gk_past rfl ?_) | (show GC _ _ _ _ _ (.cond _ _ _) _; first | refine gc_yes (h1 := ?_) | refine gc_no (h1 := ?_))))
  refine gc_loopA (γ := (Nat → Option OB) × Nat) (fun g => g.1) (fun g => [(0, a), (1, .func f []), (5, v), (6, .int .i64 (ms.length : Int)), (7, .map nx), (24, v), (25, .int .i64 (ms.length : Int)), (26, .int .i64 (g.2 : Int))]) (fun g => [⟨.rw, v, 1, ms.length, ms.map AV.map⟩, .roI a xs.length xs])
    (fun g => g.2 ≤ ms.length ∧ (∀ i m, ms[i]? = some m → GoodM c g.1 m i) ∧ ExO H.ob g.1 [] ∧ ∃ L clk, MpO g.1 nx (L.map ceM) clk ∧ CutsOk L clk ∧ FrontC L (TC c g.2 ms.length)) (fun g => ms.length - g.2)
    (seo ob nx (obM (.map [] 0)), 0) ⟨Nat.zero_le _, fun i m hm => (g3 i m hm).seo (nin hm), g4.new hnx _, [], 0, mp_same, ⟨by simp, by simp, by simp⟩, ⟨by simp, fun p v ⟨s, hs, _⟩ => by omega, by simp⟩⟩ (by (repeat (refine Cov.cons (by exact rfl) ?_)); exact Cov.nil) (by exact Sub.auto) ?_
  rintro ⟨ob2, i⟩ ⟨p1, p2, p3, Ln, kn, p4, p5, p6⟩ I2 ν2 mm2 hk2
  dsimp only at p1 p2 p3 p4 p6 hk2 ⊢
  (repeat (first | refine gst (hk := ?_) | (show GO _ _ _ _ _ (⟨some _, none, _⟩ :: _) _; first | refine go_op (hk := ?_) | (refine go_nw (hk := ?_); intro u; try simp only [llc, lln, lna, lza]) | (refine go_np (hk := ?_); intro id)) | (show GO _ _ _ _ _ (⟨none, none, _⟩ :: _) _; refine go_st (hk := ?_)) | (show GO _ _ _ _ _ (⟨_, some _, _⟩ :: _) _; first | refine go_in (hk := ?_) | refine go_out (hk := ?_) | refine go_void (hk := ?_)) | (show GK _ _ _ _ (blockK _ _ _); refine gk_past rfl ?_) | (show GC _ _ _ _ _ (.cond _ _ _) _; first | refine gc_yes (h1 := ?_) | refine gc_no (h1 := ?_))))
  refine gc_cond rfl (fun h2 => ?_) (fun h2 => ?_)
  rotate_left
  · obtain rfl : i = ms.length := by omega
    (repeat (first | refine gst (hk := ?_) | (show GO _ _ _ _ _ (⟨some _, none, _⟩ :: _) _; first | refine go_op (hk := ?_) | (refine go_nw (hk := ?_); intro u; try simp only [llc, lln, lna, lza]) | (refine go_np (hk := ?_); intro id)) | (show GO _ _ _ _ _ (⟨none, none, _⟩ :: _) _; refine go_st (hk := ?_)) | (show GO _ _ _ _ _ (⟨_, some _, _⟩ :: _) _; first | refine go_in (hk := ?_) | refine go_out (hk := ?_) | refine go_void (hk := ?_)) | (show GK _ _ _ _ (blockK _ _ _); refine gk_past rfl ?_) | (show GC _ _ _ _ _ (.cond _ _ _) _; first | refine gc_yes (h1 := ?_) | refine gc_no (h1 := ?_))))
    refine go_new rfl (stp_bslv rfl rfl rfl) ?_
    intro w
    refine go_new rfl (stp_app (v := v) (es := 1) (n := ms.length) (m' := 1) (cs := ms.map AV.map) (news := [.map nx]) rfl rfl (by exact Sel.auto) .rw (by simp [AV.one]) (by omega) (by omega) (by omega)) ?_
    intro v'
    (repeat (first | refine gst (hk := ?_) | (show GO _ _ _ _ _ (⟨some _, none, _⟩ :: _) _; first | refine go_op (hk := ?_) | (refine go_nw (hk := ?_); intro u; try simp only [llc, lln, lna, lza]) | (refine go_np (hk := ?_); intro id)) | (show GO _ _ _ _ _ (⟨none, none, _⟩ :: _) _; refine go_st (hk := ?_)) | (show GO _ _ _ _ _ (⟨_, some _, _⟩ :: _) _; first | refine go_in (hk := ?_) | refine go_out (hk := ?_) | refine go_void (hk := ?_)) | (show GK _ _ _ _ (blockK _ _ _); refine gk_past rfl ?_) | (show GC _ _ _ _ _ (.cond _ _ _) _; first | refine gc_yes (h1 := ?_) | refine gc_no (h1 := ?_))))
    have hk1 := hk (ob2, v', ms ++ [nx]) ⟨by simp, by simp; omega, fun i m hm => ?_, p3, fun m hm => ?_⟩ (by simp; omega)
    · simp only [List.length_append, List.length_singleton, List.map_append, List.map_cons, List.map_nil] at hk1
      exact gk_next hk1
    · rw [List.getElem?_append] at hm
      split at hm
      · exact p2 i m hm
      · rename_i hlt
        have : i = ms.length := by
          have := (List.getElem?_eq_some_iff.1 hm).1
          simp at this; omega
        subst this
        simp only [Nat.sub_self, List.getElem?_cons_zero, Option.some.injEq] at hm; subst hm
        exact ⟨Ln, kn, p4, p5, p6.same fun q v => ⟨fun h => h.sc (Nat.le_refl _), fun h => h.tc g1⟩⟩
    · rcases List.mem_append.1 hm with h | h
      · exact g5 m h
      · rw [List.mem_singleton.1 h]; exact x1
  have hi : i < ms.length := by omega
  obtain ⟨m, hm⟩ : ∃ m, ms[i]? = some m := ⟨ms[i]'hi, List.getElem?_eq_getElem hi⟩
  obtain ⟨Li, ki, q1, q2, q3⟩ := p2 i m hm
  have hmn := nin hm
  (repeat (first | refine gst (hk := ?_) | (show GO _ _ _ _ _ (⟨some _, none, _⟩ :: _) _; first | refine go_op (hk := ?_) | (refine go_nw (hk := ?_); intro u; try simp only [llc, lln, lna, lza]) | (refine go_np (hk := ?_); intro id)) | (show GO _ _ _ _ _ (⟨none, none, _⟩ :: _) _; refine go_st (hk := ?_)) | (show GO _ _ _ _ _ (⟨_, some _, _⟩ :: _) _; first | refine go_in (hk := ?_) | refine go_out (hk := ?_) | refine go_void (hk := ?_)) | (show GK _ _ _ _ (blockK _ _ _); refine gk_past rfl ?_) | (show GC _ _ _ _ _ (.cond _ _ _) _; first | refine gc_yes (h1 := ?_) | refine gc_no (h1 := ?_))))
  refine go_is rfl (stp_ldV (i := i) rfl (by exact Has.auto) (by simp) (by simp; omega)) ?_
  rw [nthV_map hm]
  (repeat (first | refine gst (hk := ?_) | (show GO _ _ _ _ _ (⟨some _, none, _⟩ :: _) _; first | refine go_op (hk := ?_) | (refine go_nw (hk := ?_); intro u; try simp only [llc, lln, lna, lza]) | (refine go_np (hk := ?_); intro id)) | (show GO _ _ _ _ _ (⟨none, none, _⟩ :: _) _; refine go_st (hk := ?_)) | (show GO _ _ _ _ _ (⟨_, some _, _⟩ :: _) _; first | refine go_in (hk := ?_) | refine go_out (hk := ?_) | refine go_void (hk := ?_)) | (show GK _ _ _ _ (blockK _ _ _); refine gk_past rfl ?_) | (show GC _ _ _ _ _ (.cond _ _ _) _; first | refine gc_yes (h1 := ?_) | refine gc_no (h1 := ?_))))
  refine go_new rfl (stp_slI (l := i) (h := ms.length) rfl (by exact Sel.auto) (.inr ⟨_, rfl, rfl⟩) (.inr ⟨_, rfl, rfl⟩) (by omega)) ?_
  intro w
  rw [show (xs.drop i).take (ms.length - i) = winL xs i ms.length from rfl]
  refine go_callvv rfl rfl hcf (fun H1 hH => hf (s := i) (k := ms.length) hi (by omega) (hH.ints (by exact Has.auto))) ?_
  (repeat (first | refine gst (hk := ?_) | (show GO _ _ _ _ _ (⟨some _, none, _⟩ :: _) _; first | refine go_op (hk := ?_) | (refine go_nw (hk := ?_); intro u; try simp only [llc, lln, lna, lza]) | (refine go_np (hk := ?_); intro id)) | (show GO _ _ _ _ _ (⟨none, none, _⟩ :: _) _; refine go_st (hk := ?_)) | (show GO _ _ _ _ _ (⟨_, some _, _⟩ :: _) _; first | refine go_in (hk := ?_) | refine go_out (hk := ?_) | refine go_void (hk := ?_)) | (show GK _ _ _ _ (blockK _ _ _); refine gk_past rfl ?_) | (show GC _ _ _ _ _ (.cond _ _ _) _; first | refine gc_yes (h1 := ?_) | refine gc_no (h1 := ?_))))
  revert id; intro i10
  refine go_rg rfl q1 (fun it hit => ?_)
  have x2 : H.ob it = none := p3.gone (by simp) hit
  have hitn : it ≠ nx := (mp_fresh p4 hit).symm
  have hcfd := hfc i ms.length hi (by omega)
  (repeat (first | refine gst (hk := ?_) | (show GO _ _ _ _ _ (⟨some _, none, _⟩ :: _) _; first | refine go_op (hk := ?_) | (refine go_nw (hk := ?_); intro u; try simp only [llc, lln, lna, lza]) | (refine go_np (hk := ?_); intro id)) | (show GO _ _ _ _ _ (⟨none, none, _⟩ :: _) _; refine go_st (hk := ?_)) | (show GO _ _ _ _ _ (⟨_, some _, _⟩ :: _) _; first | refine go_in (hk := ?_) | refine go_out (hk := ?_) | refine go_void (hk := ?_)) | (show GK _ _ _ _ (blockK _ _ _); refine gk_past rfl ?_) | (show GC _ _ _ _ _ (.cond _ _ _) _; first | refine gc_yes (h1 := ?_) | refine gc_no (h1 := ?_))))
  refine gc_loopA (γ := (Nat → Option OB) × List Nat × Nat) (fun g => g.1) (fun g => [(0, a), (1, .func f []), (5, v), (6, .int .i64 (ms.length : Int)), (7, .map nx), (10, .ptr i10 0), (24, v), (25, .int .i64 (ms.length : Int)), (26, .int .i64 (i : Int)), (38, .ptr it 0)]) (fun g => [celF i10 (c i ms.length), ⟨.rw, v, 1, ms.length, ms.map AV.map⟩, .roI a xs.length xs])
    (fun g => (∀ j m, ms[j]? = some m → GoodM c g.1 m j) ∧ MpO g.1 m (Li.map ceM) ki ∧ ItO g.1 it m ki g.2.1 g.2.2 ∧ ki ≤ g.2.2 ∧ ExO H.ob g.1 [] ∧ GoneC Li g.2.1 ∧ ∃ L clk, MpO g.1 nx (L.map ceM) clk ∧ CutsOk L clk ∧ FrontC L (fun q v => TC c i ms.length q v ∨ ∃ x ∈ Li, x.b ∈ g.2.1 ∧ q = x.p + 1 ∧ v = x.v + c i ms.length)) (fun g => Li.length - g.2.1.length)
    (seo ob2 it (obM (.iter m ki [] ki)), [], ki) ⟨fun j m' hm' => ?_, mp_other q1 (mp_fresh q1 hit), it_same, Nat.le_refl _, p3.new hit _, GoneC.nil Li, Ln, kn, mp_other p4 hitn.symm, p5, p6.same fun q v => ⟨.inl, fun h => h.resolve_right fun ⟨x, _, hb, _⟩ => by simp at hb⟩⟩ (by (repeat (refine Cov.cons (by exact rfl) ?_)); exact Cov.nil) (by exact Sub.auto) ?_
  · obtain ⟨_, _, k1, _⟩ := p2 j m' hm'
    exact (p2 j m' hm').seo (mp_fresh k1 hit)
  rintro ⟨ob3, seen, last⟩ ⟨r1, r2, r3, r4, r5, r6, Lx, kx, r7, r8, r9⟩ I3 ν3 mm3 hk3
  dsimp only at r1 r2 r3 r4 r5 r6 r7 r9 hk3 ⊢
  (repeat (first | refine gst (hk := ?_) | (show GO _ _ _ _ _ (⟨some _, none, _⟩ :: _) _; first | refine go_op (hk := ?_) | (refine go_nw (hk := ?_); intro u; try simp only [llc, lln, lna, lza]) | (refine go_np (hk := ?_); intro id)) | (show GO _ _ _ _ _ (⟨none, none, _⟩ :: _) _; refine go_st (hk := ?_)) | (show GO _ _ _ _ _ (⟨_, some _, _⟩ :: _) _; first | refine go_in (hk := ?_) | refine go_out (hk := ?_) | refine go_void (hk := ?_)) | (show GK _ _ _ _ (blockK _ _ _); refine gk_past rfl ?_) | (show GC _ _ _ _ _ (.cond _ _ _) _; first | refine gc_yes (h1 := ?_) | refine gc_no (h1 := ?_))))
  refine go_nxC rfl r3 r2 q2 r4 (fun hend => ?_) (fun x hx hn => ?_)
  · (repeat (first | refine gst (hk := ?_) | (show GO _ _ _ _ _ (⟨some _, none, _⟩ :: _) _; first | refine go_op (hk := ?_) | (refine go_nw (hk := ?_); intro u; try simp only [llc, lln, lna, lza]) | (refine go_np (hk := ?_); intro id)) | (show GO _ _ _ _ _ (⟨none, none, _⟩ :: _) _; refine go_st (hk := ?_)) | (show GO _ _ _ _ _ (⟨_, some _, _⟩ :: _) _; first | refine go_in (hk := ?_) | refine go_out (hk := ?_) | refine go_void (hk := ?_)) | (show GK _ _ _ _ (blockK _ _ _); refine gk_past rfl ?_) | (show GC _ _ _ _ _ (.cond _ _ _) _; first | refine gc_yes (h1 := ?_) | refine gc_no (h1 := ?_))))
    refine gk_next (hk2 (ob3, i + 1) ⟨by omega, r1, r5, Lx, kx, r7, r8, r9.weaken (fun q v h => ?_) (fun q v h => ?_)⟩ (by dsimp only; omega))
    · rcases h with ⟨s, h1, h2⟩ | ⟨x, hx, _, rfl, rfl⟩
      · exact ⟨s, by dsimp only; omega, h2⟩
      · exact ⟨i, by dsimp only; omega, _, _, q3.1 x hx, rfl, rfl⟩
    · obtain ⟨s, h1, q', v', hsc, rfl, rfl⟩ := h
      dsimp only at h1
      rcases Nat.lt_or_ge s i with h3 | h3
      · exact ⟨_, _, .inl ⟨s, h3, q', v', hsc, rfl, rfl⟩, Nat.le_refl _, Rat.le_refl⟩
      · have esi : s = i := by omega
        subst esi
        obtain ⟨x, k1, k2, k3⟩ := q3.2.1 q' v' hsc
        exact ⟨_, _, .inr ⟨x, k1, hend x k1, rfl, rfl⟩, by omega, by grind⟩
  · have ne1 := mp_it r2 r3
    obtain ⟨hxf, hx8⟩ := scfd (q3.1 x hx) (by omega)
    have hsum : SC c ms.length (x.p + 1) (x.v + c i ms.length) := TC.sc ⟨i, hi, _, _, q3.1 x hx, rfl, rfl⟩ (Nat.le_refl _)
    obtain ⟨hsf, hs8⟩ := scfd hsum (by omega)
    have hall : ∀ e ∈ Lx, SC c ms.length e.p e.v := fun e he => by
      rcases r9.1 e he with h | ⟨y, hy, _, h1, h2⟩
      · exact h.sc (by omega)
      · rw [h1, h2]; exact TC.sc ⟨i, hi, _, _, q3.1 y hy, rfl, rfl⟩ (Nat.le_refl _)
    (repeat (first | refine gst (hk := ?_) | (show GO _ _ _ _ _ (⟨some _, none, _⟩ :: _) _; first | refine go_op (hk := ?_) | (refine go_nw (hk := ?_); intro u; try simp only [llc, lln, lna, lza]) | (refine go_np (hk := ?_); intro id)) | (show GO _ _ _ _ _ (⟨none, none, _⟩ :: _) _; refine go_st (hk := ?_)) | (show GO _ _ _ _ _ (⟨_, some _, _⟩ :: _) _; first | refine go_in (hk := ?_) | refine go_out (hk := ?_) | refine go_void (hk := ?_)) | (show GK _ _ _ _ (blockK _ _ _); refine gk_past rfl ?_) | (show GC _ _ _ _ _ (.cond _ _ _) _; first | refine gc_yes (h1 := ?_) | refine gc_no (h1 := ?_))))
    refine go_enC rfl it_same (mp_other r2 ne1) q2 hx ?_
    (repeat (first | refine gst (hk := ?_) | (show GO _ _ _ _ _ (⟨some _, none, _⟩ :: _) _; first | refine go_op (hk := ?_) | (refine go_nw (hk := ?_); intro u; try simp only [llc, lln, lna, lza]) | (refine go_np (hk := ?_); intro id)) | (show GO _ _ _ _ _ (⟨none, none, _⟩ :: _) _; refine go_st (hk := ?_)) | (show GO _ _ _ _ _ (⟨_, some _, _⟩ :: _) _; first | refine go_in (hk := ?_) | refine go_out (hk := ?_) | refine go_void (hk := ?_)) | (show GK _ _ _ _ (blockK _ _ _); refine gk_past rfl ?_) | (show GC _ _ _ _ _ (.cond _ _ _) _; first | refine gc_yes (h1 := ?_) | refine gc_no (h1 := ?_))))
    refine go_callp rfl code_impl_Frac_plus.callable (fun H hH => implPlus_ok (p := x.v) (q := c i ms.length) (fit9 (hxf.mono (by omega)) (hcfd.mono (by omega)))) ?_
    (repeat (first | refine gst (hk := ?_) | (show GO _ _ _ _ _ (⟨some _, none, _⟩ :: _) _; first | refine go_op (hk := ?_) | (refine go_nw (hk := ?_); intro u; try simp only [llc, lln, lna, lza]) | (refine go_np (hk := ?_); intro id)) | (show GO _ _ _ _ _ (⟨none, none, _⟩ :: _) _; refine go_st (hk := ?_)) | (show GO _ _ _ _ _ (⟨_, some _, _⟩ :: _) _; first | refine go_in (hk := ?_) | refine go_out (hk := ?_) | refine go_void (hk := ?_)) | (show GK _ _ _ _ (blockK _ _ _); refine gk_past rfl ?_) | (show GC _ _ _ _ _ (.cond _ _ _) _; first | refine gc_yes (h1 := ?_) | refine gc_no (h1 := ?_))))
    refine go_callO (v := .tuple []) (Φ := fun ob' => (∀ j, j ≠ nx → ob' j = seo ob3 it (obM (.iter m ki (seen ++ [x.b]) ki)) j) ∧ ∃ L' clk', MpO ob' nx (L'.map ceM) clk' ∧ CutsOk L' clk' ∧ KpC Lx (x.p + 1) (x.v + c i ms.length) L') rfl code_impl_cuts_keep.callable (fun H1 hH => ?_) ?_
    · have hob : H1.ob = seo ob3 it (obM (.iter m ki (seen ++ [x.b]) ki)) := hH.le.ob
      refine (keep_ok (m0 := nx) (p := x.p + 1) (v := x.v + c i ms.length) (L := Lx) (clk := kx) (by rw [hob]; exact mp_other r7 hitn.symm) r8 (by omega) (fun e he => by have := (scfd (hall e he) (by omega)).2; omega) (fun e he => fit9 ((scfd (hall e he) (by omega)).1.mono (by omega)) (hsf.mono (by omega)))).mono ?_
      rintro r H' ⟨rfl, k1, k3, k4⟩
      exact ⟨rfl, k1, fun j hj => by rw [k3 j hj, hob], k4⟩
    rintro ob' ⟨k3, L', clk', k4, k5, k6⟩
    (repeat (first | refine gst (hk := ?_) | (show GO _ _ _ _ _ (⟨some _, none, _⟩ :: _) _; first | refine go_op (hk := ?_) | (refine go_nw (hk := ?_); intro u; try simp only [llc, lln, lna, lza]) | (refine go_np (hk := ?_); intro id)) | (show GO _ _ _ _ _ (⟨none, none, _⟩ :: _) _; refine go_st (hk := ?_)) | (show GO _ _ _ _ _ (⟨_, some _, _⟩ :: _) _; first | refine go_in (hk := ?_) | refine go_out (hk := ?_) | refine go_void (hk := ?_)) | (show GK _ _ _ _ (blockK _ _ _); refine gk_past rfl ?_) | (show GC _ _ _ _ _ (.cond _ _ _) _; first | refine gc_yes (h1 := ?_) | refine gc_no (h1 := ?_))))
    refine gk_next (hk3 (ob', seen ++ [x.b], ki) ⟨fun j m' hm' => ?_, mp_eq (mp_other r2 ne1) (k3 m hmn), it_eq it_same (k3 it hitn), Nat.le_refl _, (r5.mod (.inl x2) _).eq x1 k3, r6.snoc hx hn, L', clk', k4, k5, (r9.keep k6).same fun q v => ?_⟩ (r6.lt hx hn))
    · obtain ⟨_, _, k7, _⟩ := r1 j m' hm'
      exact ((r1 j m' hm').seo (mp_it k7 r3)).eq (k3 m' (nin hm'))
    · constructor
      · rintro ((h | ⟨y, hy, hb, h1, h2⟩) | ⟨h1, h2⟩)
        · exact .inl h
        · exact .inr ⟨y, hy, List.mem_append_left _ hb, h1, h2⟩
        · exact .inr ⟨x, hx, by simp, h1, h2⟩
      · rintro (h | ⟨y, hy, hb, h1, h2⟩)
        · exact .inl (.inl h)
        · rcases List.mem_append.1 hb with hb | hb
          · exact .inl (.inr ⟨y, hy, hb, h1, h2⟩)
          · obtain rfl := map_inj q2.1 hy hx (List.mem_singleton.1 hb)
            exact .inr ⟨h1, h2⟩

theorem go_callM {P : Program} {A : Heap} {X : List Nat} {E : List (Nat × AV)} {S : Sig} {r : List MI} {K : St → Prop} {ob : Nat → Option OB} {d : Nat} {f : FuncId} {args : List MX} {vs : List AV} {Φ : (Nat → Option OB) → Nat → Prop} (ha : evsE E args = some vs) (hc : Callable P f)
    (h : ∀ H, SOk (A.obs ob) X S H.size H → ACalls P f vs H fun r H' => ∃ m0, r = .map m0 ∧ (H.size ≤ H'.size ∧ ∀ i, i < H.size → H'.get i = H.get i) ∧ Φ H'.ob m0) (hk : ∀ ob' m0, Φ ob' m0 → GO P (A.obs ob') X ((d, .map m0) :: E) S r K) : GO P (A.obs ob) X E S (⟨some d, none, .call f args⟩ :: r) K :=
  go_callA (γ := (Nat → Option OB) × Nat) (O := fun g => g.1) (V := fun g => .map g.2) (T := fun _ => S) (Φ := fun g => Φ g.1 g.2) ha hc (fun H hH => (h H hH).mono fun r H' ⟨m0, h1, h2, h3⟩ => ⟨(H'.ob, m0), h1, sok_leO hH h2.1 h2.2 rfl, h3⟩) (fun g hg => hk g.1 g.2 hg)

/-- the best cuts, as a map that is there -/
def BestM (c : Nat → Nat → Rat) (n : Nat) (ob ob' : Nat → Option OB) (m0 : Nat) : Prop := ob m0 = none ∧ (∀ j, j ≠ m0 → ob' j = ob j) ∧ ∃ L clk, MpO ob' m0 (L.map ceM) clk ∧ CutsOk L clk ∧ FrontC L (fun q v => Cuts (· + ·) c q 0 n v)

theorem BestM.ex {c : Nat → Nat → Rat} {n : Nat} {ob ob' : Nat → Option OB} {m0 : Nat} (h : BestM c n ob ob' m0) : ExO ob ob' [] := (ExO.refl ob []).eq h.1 h.2.1

theorem bestM_ok {f : FuncId} {c : Nat → Nat → Rat} {A : Heap} {X : List Nat} {S : Sig} {H : Heap} {ob : Nat → Option OB} {a : AV} {xs : List Int} (hH : SOk (A.obs ob) X S H.size H) (ha : Ints H a xs) (hS : Steps xs) (hcf : Callable Try.prog f)
    (hf : ∀ {H1 : Heap} {b : AV} {s k : Nat}, s < k → k ≤ xs.length → Ints H1 b (winL xs s k) → ACalls Try.prog f [b] H1 fun r H' => r = frV (c s k) ∧ Le H1 H')
    (hfd : ∀ q k v, Cuts (· + ·) c q 0 k v → k ≤ xs.length → FD v 840 1000000000) (hfc : ∀ s k, s < k → k ≤ xs.length → FD (c s k) 840 1000000000) :
    ACalls Try.prog fn_impl_bestCuts [a, .func f []] H fun r H' => ∃ m0, r = .map m0 ∧ (H.size ≤ H'.size ∧ ∀ i, i < H.size → H'.get i = H.get i) ∧ BestM c xs.length ob H'.ob m0 := by
  have hob : H.ob = ob := hH.le.ob
  have hn1 := hS.2.1
  refine (bestCuts_ok (c := c) ha hS hcf hf hfd hfc).mono ?_
  rintro r H' ⟨m0, L, clk, rfl, h1, h2, h3, h4, h5, h6⟩
  exact ⟨m0, rfl, h1, by rw [← hob]; exact h2, fun j hj => by rw [← hob]; exact h3 j hj, L, clk, h4, h5, h6.same fun q v => ⟨fun h => h.resolve_left fun h => by omega, .inr⟩⟩

theorem missedSquares_win {H : Heap} {b : AV} {xs : List Int} {s k : Nat} (hS : Steps xs) (h1 : s < k) (h2 : k ≤ xs.length) (hb : Ints H b (winL xs s k)) : ACalls Try.prog fn_impl_missedSquares [b] H fun r H' => r = frV (pieR xs s k) ∧ Le H H' := by
  have hn := hS.2.2
  have hl := win_len2 (xs := xs) (i := s) h2
  refine (missedSquares_ok hb (hS.win s k) (by omega) (by omega)).mono ?_
  rintro r H' ⟨rfl, rfl⟩
  exact ⟨by rw [pie_win h2], Le.refl _⟩

theorem Steps.sq_fd {xs : List Int} (hS : Steps xs) : ∀ q k v, Cuts (· + ·) (pieR xs) q 0 k v → k ≤ xs.length → FD v 840 1000000000 := fun q k v h hk => by
  have hn := hS.2.2
  have := h.lt
  exact (cuts_fd hS.x h (by omega)).mono (by omega)

theorem Steps.sq_fc {xs : List Int} (hS : Steps xs) : ∀ s k, s < k → k ≤ xs.length → FD (pieR xs s k) 840 1000000000 := fun s k h hk => by
  have hn := hS.2.2
  exact (pie_fd2 hS.x h (by omega)).mono (by omega)

theorem fd_int {w B : Int} (h : -B ≤ 840 * w ∧ 840 * w ≤ B) : FD (w : Rat) 840 B := ⟨by omega, 840 * w, by rw [Rat.intCast_mul]; grind, h.1, h.2⟩

def ofC (t : Rat × Nat) : List AV := [.int .i64 t.1.num, .int .i64 (t.1.den : Int), .int .i64 (t.2 : Int)]

theorem cels_of : Cels ofC 3 := ⟨fun _ => rfl, fun _ => rfl⟩

abbrev ofs (L : List (Rat × Nat)) : List AV := cellsK ofC L

abbrev ofV (t : Rat × Nat) : AV := .agg (ofC t)

abbrev nthO (L : List (Rat × Nat)) (i : Nat) : Rat × Nat := nthA (0, 0) L i

abbrev celOf (i : Nat) (t : Rat × Nat) : Ch := ⟨.cell, .ptr i 0, 3, 1, ofC t⟩

def ltO (s t : Rat × Nat) : Prop := s.1 < t.1 ∨ (s.1 = t.1 ∧ s.2 < t.2)

noncomputable instance (s t : Rat × Nat) : Decidable (ltO s t) := Classical.propDecidable _

theorem ltO_trans {a b c : Rat × Nat} (h : ltO a b) (h' : ltO b c) : ltO a c := by
  rcases h with h | ⟨h1, h2⟩ <;> rcases h' with g | ⟨g1, g2⟩
  · exact .inl (by grind)
  · exact .inl (by rw [← g1]; exact h)
  · exact .inl (by rw [h1]; exact g)
  · exact .inr ⟨h1.trans g1, by omega⟩

noncomputable def lfO (g : Nat → Rat × Nat) : Nat → Rat × Nat
  | 0 => g 0
  | k + 1 => if ltO (g (k + 1)) (lfO g k) then g (k + 1) else lfO g k

theorem lfO_is (g : Nat → Rat × Nat) : ∀ k, (∃ j, j ≤ k ∧ lfO g k = g j) ∧ ∀ j, j ≤ k → ¬ ltO (g j) (lfO g k)
  | 0 => ⟨⟨0, Nat.le_refl _, rfl⟩, fun j hj => by
    obtain rfl : j = 0 := by omega
    rw [lfO]; rintro (h | ⟨_, h⟩)
    · exact absurd h Rat.lt_irrefl
    · omega⟩
  | k + 1 => by
    obtain ⟨⟨j, h1, h2⟩, h3⟩ := lfO_is g k
    rw [lfO]; split
    · rename_i hl
      refine ⟨⟨k + 1, Nat.le_refl _, rfl⟩, fun i hi hc => ?_⟩
      rcases Nat.lt_or_ge k i with h | h
      · obtain rfl : i = k + 1 := by omega
        rcases hc with h | ⟨_, h⟩
        · exact absurd h Rat.lt_irrefl
        · omega
      · exact h3 i h (ltO_trans hc hl)
    · rename_i hl
      refine ⟨⟨j, by omega, h2⟩, fun i hi hc => ?_⟩
      rcases Nat.lt_or_ge k i with h | h
      · obtain rfl : i = k + 1 := by omega
        exact hl hc
      · exact h3 i h hc

def orI (a b : Int) : Int := if a = 0 then b else a

theorem orI_neg {s t : Rat × Nat} : orI (cmR s.1 t.1) (sgn ((s.2 : Int) - (t.2 : Int))) < 0 ↔ ltO s t := by
  unfold orI ltO
  split
  · rename_i h
    have e : s.1 = t.1 := by
      have h1 : ¬ s.1 < t.1 := fun g => by have := cmR_neg.2 g; omega
      have h2 : ¬ t.1 < s.1 := fun g => by have := cmR_pos.2 g; omega
      exact Rat.le_antisymm (Rat.not_lt.1 h2) (Rat.not_lt.1 h1)
    rw [e]
    have : sgn ((s.2 : Int) - (t.2 : Int)) < 0 ↔ s.2 < t.2 := by unfold sgn; split <;> (try split) <;> omega
    rw [this]
    exact ⟨fun h => .inr ⟨rfl, h⟩, fun h => h.elim (fun h => absurd h Rat.lt_irrefl) (·.2)⟩
  · rename_i h
    rw [cmR_neg]
    constructor
    · exact .inl
    · rintro (g | ⟨g, _⟩)
      · exact g
      · exfalso
        apply h
        have h1 : ¬ cmR s.1 t.1 < 0 := fun k => by have := cmR_neg.1 k; rw [g] at this; exact absurd this Rat.lt_irrefl
        have h2 : ¬ 0 < cmR s.1 t.1 := fun k => by have := cmR_pos.1 k; rw [g] at this; exact absurd this Rat.lt_irrefl
        omega

/-- what a way costs -/
def offC (c : Int) (e : CE) : Rat × Nat := (e.v + ((c * (e.p : Int) : Int) : Rat), e.p)

end Go.Rx.Try
