import Derived.Test.YtophpmdlgphihagFnPricedPiecesD2
namespace Go.Rx.Try
open Go.Proofs
set_option maxRecDepth 100000
set_option maxHeartbeats 8000000
set_option linter.unusedSimpArgs false
set_option linter.unusedVariables false

theorem Loads.sums {xs ws : List Int} (h : Loads xs ws) {i : Nat} : ∀ {e}, i ≤ e → e ≤ xs.length →
    (((e - i : Nat) : Int) ≤ sumI ws e - sumI ws i ∧ sumI ws e - sumI ws i ≤ 5 * ((e - i : Nat) : Int)) ∧ (-(30 * (sumI ws e - sumI ws i)) ≤ dotT xs ws e - dotT xs ws i ∧ dotT xs ws e - dotT xs ws i ≤ 30 * (sumI ws e - sumI ws i))
  | 0, h1, _ => by obtain rfl : i = 0 := by omega
                   simp
  | e + 1, h1, h2 => by
    rcases Nat.lt_or_ge e i with h3 | h3
    · obtain rfl : i = e + 1 := by omega
      simp
    · have ih := h.sums (i := i) (e := e) h3 (by omega)
      have hw := h.w (i := e) (by omega)
      have hx := h.x e
      have m1 : nth xs e * nth ws e ≤ 30 * nth ws e := Int.mul_le_mul_of_nonneg_right hx.2 (by omega)
      have m2 : -30 * nth ws e ≤ nth xs e * nth ws e := Int.mul_le_mul_of_nonneg_right hx.1 (by omega)
      rw [show sumI ws (e + 1) = sumI ws e + nth ws e from rfl, show dotT xs ws (e + 1) = dotT xs ws e + nth xs e * nth ws e from rfl]
      generalize nth xs e * nth ws e = p at *
      omega

theorem Loads.pos {xs ws : List Int} (h : Loads xs ws) {i e : Nat} (h1 : i < e) (h2 : e ≤ xs.length) : 1 ≤ sumI ws e - sumI ws i ∧ sumI ws e - sumI ws i ≤ 40 := by
  have := (h.sums (i := i) (e := e) (by omega) h2).1
  have := h.2.2.2.2
  omega

theorem Loads.asc {xs ws : List Int} (h : Loads xs ws) : AscW (rW ws) xs.length := fun i hi => by
  have := h.pos (i := i) (e := i + 1) (by omega) hi
  exact Rat.intCast_lt_intCast.2 (by omega)

theorem rW_succ (ws : List Int) (i : Nat) : rW ws (i + 1) - rW ws i = ((nth ws i : Int) : Rat) := by
  unfold rW
  rw [show sumI ws (i + 1) = sumI ws i + nth ws i from rfl, Rat.intCast_add]; grind

theorem rS_succ (xs ws : List Int) (i : Nat) : rS xs ws (i + 1) - rS xs ws i = ((nth xs i : Int) : Rat) * (rW ws (i + 1) - rW ws i) := by
  rw [rW_succ]
  unfold rS
  rw [show dotT xs ws (i + 1) = dotT xs ws i + nth xs i * nth ws i from rfl, Rat.intCast_add, Rat.intCast_mul]; grind

noncomputable def fiR (xs ws : List Int) (j : Nat) : Rat := fitN (rS xs ws) (rW ws) xs.length j

def Dv (q : Rat) (D : Int) : Prop := 0 < D ∧ ∃ k : Int, q * (D : Rat) = (k : Rat)

theorem Dv.lift {q : Rat} {D m : Int} (h : Dv q D) (hm : 0 < m) : Dv q (D * m) := by
  obtain ⟨h1, k, h2⟩ := h
  exact ⟨Int.mul_pos h1 hm, k * m, by rw [Rat.intCast_mul, Rat.intCast_mul, ← Rat.mul_assoc, h2]⟩

theorem Dv.add {p q : Rat} {D : Int} (h : Dv p D) (h' : Dv q D) : Dv (p + q) D := by
  obtain ⟨h1, k, h2⟩ := h
  obtain ⟨_, l, h3⟩ := h'
  exact ⟨h1, k + l, by rw [Rat.intCast_add, ← h2, ← h3]; grind⟩

theorem Dv.mul {p q : Rat} {D E : Int} (h : Dv p D) (h' : Dv q E) : Dv (p * q) (D * E) := by
  obtain ⟨h1, k, h2⟩ := h
  obtain ⟨h4, l, h3⟩ := h'
  exact ⟨Int.mul_pos h1 h4, k * l, by rw [Rat.intCast_mul, Rat.intCast_mul, ← h2, ← h3]; grind⟩

theorem Dv.int (n : Int) : Dv (n : Rat) 1 := ⟨by omega, n, by simp⟩

theorem Dv.to {q : Rat} {D E : Int} (h : Dv q D) (e : D = E) : Dv q E := e ▸ h

def sqM (xs ws : List Int) (f : Nat → Rat) (i : Nat) : Rat := ((nth ws i : Int) : Rat) * ((((nth xs i : Int) : Rat) - f i) * (((nth xs i : Int) : Rat) - f i))

def miF (xs ws : List Int) (f : Nat → Rat) (t : Nat) : Rat := sumR (sqM xs ws f) t

noncomputable def miR (xs ws : List Int) (t : Nat) : Rat := miF xs ws (fiR xs ws) t

theorem Loads.blk {xs ws : List Int} (h : Loads xs ws) : Bks (rS xs ws) (rW ws) (poS (rS xs ws) (rW ws) xs.length) xs.length ∧ Inc (rS xs ws) (rW ws) (poS (rS xs ws) (rW ws) xs.length) xs.length := poS_ok h.asc (Nat.le_refl _)

/-- what a row misses -/
def miT (xs ws rs : List Int) : Nat → Int
  | 0 => 0
  | t + 1 => miT xs ws rs t + nth ws t * (nth xs t - nth rs t) * (nth xs t - nth rs t)

theorem Loads.best {xs ws : List Int} (h : Loads xs ws) {rs : List Int} (hr : ∀ i, i + 1 < xs.length → nth rs i ≤ nth rs (i + 1)) : miR xs ws xs.length ≤ ((miT xs ws rs xs.length : Int) : Rat) := by
  have h1 := fit_best (x := fun i => ((nth xs i : Int) : Rat)) (r := fun i => ((nth rs i : Int) : Rat)) h.asc (fun i _ => rS_succ xs ws i) fun i hi => Rat.intCast_le_intCast.2 (hr i hi)
  have e1 : sumR (fun i => (rW ws (i + 1) - rW ws i) * ((((nth xs i : Int) : Rat) - fitN (rS xs ws) (rW ws) xs.length i) * (((nth xs i : Int) : Rat) - fitN (rS xs ws) (rW ws) xs.length i))) xs.length = miR xs ws xs.length :=
    sumR_congr fun i _ => by rw [rW_succ]; rfl
  have e2 : ∀ t, sumR (fun i => (rW ws (i + 1) - rW ws i) * ((((nth xs i : Int) : Rat) - ((nth rs i : Int) : Rat)) * (((nth xs i : Int) : Rat) - ((nth rs i : Int) : Rat)))) t = ((miT xs ws rs t : Int) : Rat) := by
    intro t
    induction t with
    | zero => rfl
    | succ t ih =>
      rw [show sumR (fun i => (rW ws (i + 1) - rW ws i) * ((((nth xs i : Int) : Rat) - ((nth rs i : Int) : Rat)) * (((nth xs i : Int) : Rat) - ((nth rs i : Int) : Rat)))) (t + 1) = _ + _ from rfl, ih, miT]
      dsimp only
      rw [rW_succ]
      simp only [Rat.intCast_add, Rat.intCast_mul, Rat.intCast_sub]
      grind
  rw [← e1, ← e2]; exact h1

theorem Loads.back {xs ws : List Int} (h : Loads xs ws) : Loads xs.reverse ws.reverse := by
  obtain ⟨h1, h2, h3, h4, h5⟩ := h
  exact ⟨fun w hw => h1 w (List.mem_reverse.1 hw), fun x hx => h2 x (List.mem_reverse.1 hx), by simp [h3], by simpa using h4, by simpa using h5⟩

def sumY (g : Nat → Int) : Nat → Int
  | 0 => 0
  | n + 1 => sumY g n + g n

theorem dopsC_mono {P : Program} {Qt : FuncId → List AV → Option AV} {base : Nat} {C C' : List (List Nat × List Nat) → Prop} {K : St → Prop} {prs : List (Nat × Nat)} (hC : ∀ acc, C acc → C' acc) : ∀ {l : List MI} {k : Nat} {s : St} {acc : List (List Nat × List Nat)}, dopsC P Qt base k l s acc prs C K → dopsC P Qt base k l s acc prs C' K
  | [], k, s, acc, h => ⟨⟨h.1.1, hC acc h.1.2⟩, h.2⟩
  | m :: r, k, s, acc, h => by
    simp only [dopsC] at h ⊢
    split at h
    · exact dopsC_mono hC h
    · exact h.elim

theorem gc_drw4n {P : Program} {A : Heap} {X : List Nat} {E : List (Nat × AV)} {S : Sig} {Q : Exit → St → Prop} {prs : List (Nat × Nat)} {l : List MI} (Qt : FuncId → List AV → Option AV) (hQ : ∀ H0 H, SOk A X S H0.size H0 → (∀ id, id < H0.size → H.get id = H0.get id) → QtOk P Qt H)
    (h : ∀ H0, SOk A X S H0.size H0 → GD4 P Qt H0.size 0 A X E S [] prs l (fun acc => ∀ f ∈ acc, ∀ id ∈ f.2, H0.size ≤ id) (Q .normal)) : GC P A X E S (.drw l prs) Q :=
  gc_drw4 Qt fun H0 hH0 => ⟨fun s m h1 h2 h3 => dopsC_mono (fun acc ha H hH => hQ H0 H hH0 fun id hid => hH id fun f hf h4 => absurd (ha f hf id h4) (by omega)) ((h H0 hH0).g s m h1 h2 h3)⟩

theorem pairs_on {fs : List (List Nat × List Nat)} {i j k base : Nat} {fi : List Nat} {r : List (Nat × Nat)} (hi : fs[i]? = some (fi, [])) (hj : fs[j]? = some ([], [base + k])) (h : ∀ id ∈ fi, id < base) (hr : pairsOk fs r) : pairsOk fs ((i, j) :: r) :=
  pairs_one hi hj (by simp) (fun id h1 h2 => by simp only [List.mem_singleton] at h1; have := h id h2; omega) hr

theorem vid_old {A : Heap} {X : List Nat} {S : Sig} {H0 : Heap} {v : AV} {es n : Nat} {cs : List AV} {i : Nat} (h : SOk A X S H0.size H0) (hh : Has S v es n cs) : ∀ j ∈ vid (v.elem i), j < H0.size := by
  intro j hj
  refine (h.valsA hh).bid j ?_
  cases v <;> simp [AV.elem, vid] at hj <;> simp [AV.bid, hj]

theorem gd4_op {P : Program} {Qt : FuncId → List AV → Option AV} {base k : Nat} {A : Heap} {X : List Nat} {E : List (Nat × AV)} {S S' : Sig} {acc : List (List Nat × List Nat)} {prs : List (Nat × Nat)} {C : List (List Nat × List Nat) → Prop} {K : St → Prop} {r : List MI} {d : Nat} {v : AV} {op : MOp} (hs : Stp A X E S op (Is v S') := by exact stp_auto) (hq : (!op.isCall && !writes op && !reads op) = true := by exact rfl) (hk : GD4 P Qt base (k + 1) A X ((d, v) :: E) S' (acc ++ [([], [])]) prs r C K) : GD4 P Qt base k A X E S acc prs (⟨some d, none, op⟩ :: r) C K := gd4_is hq hs hk

theorem Loads.take {xs ws : List Int} (h : Loads xs ws) {k : Nat} (h1 : 1 ≤ k) (h2 : k ≤ xs.length) : Loads (xs.take k) (ws.take k) := by
  obtain ⟨g1, g2, g3, g4, g5⟩ := h
  exact ⟨fun w hw => g1 w (List.mem_of_mem_take hw), fun x hx => g2 x (List.mem_of_mem_take hx), by rw [List.length_take, List.length_take]; omega, by rw [List.length_take]; omega, by rw [List.length_take]; omega⟩

theorem has_k {k : Kd} (h : k = .rw ∨ k = .ro) {S : Sig} {v : AV} {es n : Nat} {cs : List AV} : Has (⟨k, v, es, n, cs⟩ :: S) v es n cs := by
  rcases h with rfl | rfl
  · exact .rw
  · exact .ro

theorem has_memk {S : Sig} {c : Ch} (hc : c ∈ S) (h : c.k = .rw ∨ c.k = .ro) : Has S c.v c.es c.n c.cs := by
  induction S with
  | nil => simp at hc
  | cons d S ih =>
    rcases List.mem_cons.1 hc with rfl | hc
    · obtain ⟨k, v, es, n, cs⟩ := c
      exact has_k h
    · exact .tail (ih hc)
/- windows: parts of a slice that has no room behind them -/

def Steps (xs : List Int) : Prop := Bd 30 xs ∧ 1 ≤ xs.length ∧ xs.length ≤ 8

noncomputable instance (xs : List Int) : Decidable (Steps xs) := Classical.propDecidable _

theorem Steps.x {xs : List Int} (h : Steps xs) (j : Nat) : -30 ≤ nth xs j ∧ nth xs j ≤ 30 := h.1.nth (by omega) j

theorem validHeights_ok {H : Heap} {a : AV} {xs : List Int} (ha : Ints H a xs) (hl : xs.length ≤ 1000000000) :
    ACalls Try.prog fn_impl_validHeights [a] H fun r H' => r = .bool (decide (Steps xs)) ∧ H' = H := by
  refine ACalls.val ?_ rfl
  refine code_impl_validHeights.go [.roI a xs.length xs] ⟨⟨rfl, ha⟩, trivial⟩ (by simp) ?_
  unfold mc_impl_validHeights
  have no : (Steps xs → False) → decide (Steps xs) = false := fun h => decide_eq_false h
  (repeat (first | refine gst (hk := ?_) | (show GO _ _ _ _ _ (⟨some _, none, _⟩ :: _) _; first | refine go_op (hk := ?_) | (refine go_nw (hk := ?_); intro u; try simp only [llc, lln, lna, lza]) | (refine go_np (hk := ?_); intro id)) | (show GO _ _ _ _ _ (⟨none, none, _⟩ :: _) _; refine go_st (hk := ?_)) | (show GO _ _ _ _ _ (⟨_, some _, _⟩ :: _) _; first | refine go_in (hk := ?_) | refine go_out (hk := ?_) | refine go_void (hk := ?_)) | (show GK _ _ _ _ (blockK _ _ _); refine gk_past rfl ?_) | (show GC _ _ _ _ _ (.cond _ _ _) _; first | refine gc_yes (h1 := ?_) | refine gc_no (h1 := ?_))))
  refine go_split 8 rfl (fun h1 => ?_) (fun h1 => ?_)
  · (repeat (first | refine gst (hk := ?_) | (show GO _ _ _ _ _ (⟨some _, none, _⟩ :: _) _; first | refine go_op (hk := ?_) | (refine go_nw (hk := ?_); intro u; try simp only [llc, lln, lna, lza]) | (refine go_np (hk := ?_); intro id)) | (show GO _ _ _ _ _ (⟨none, none, _⟩ :: _) _; refine go_st (hk := ?_)) | (show GO _ _ _ _ _ (⟨_, some _, _⟩ :: _) _; first | refine go_in (hk := ?_) | refine go_out (hk := ?_) | refine go_void (hk := ?_)) | (show GK _ _ _ _ (blockK _ _ _); refine gk_past rfl ?_) | (show GC _ _ _ _ _ (.cond _ _ _) _; first | refine gc_yes (h1 := ?_) | refine gc_no (h1 := ?_))))
    exact gk_ret rfl fun H' hH => ⟨by rw [no fun h => by have := h.2.1; omega]; rfl, hH.leE⟩
  (repeat (first | refine gst (hk := ?_) | (show GO _ _ _ _ _ (⟨some _, none, _⟩ :: _) _; first | refine go_op (hk := ?_) | (refine go_nw (hk := ?_); intro u; try simp only [llc, lln, lna, lza]) | (refine go_np (hk := ?_); intro id)) | (show GO _ _ _ _ _ (⟨none, none, _⟩ :: _) _; refine go_st (hk := ?_)) | (show GO _ _ _ _ _ (⟨_, some _, _⟩ :: _) _; first | refine go_in (hk := ?_) | refine go_out (hk := ?_) | refine go_void (hk := ?_)) | (show GK _ _ _ _ (blockK _ _ _); refine gk_past rfl ?_) | (show GC _ _ _ _ _ (.cond _ _ _) _; first | refine gc_yes (h1 := ?_) | refine gc_no (h1 := ?_))))
  refine gc_cond rfl (fun h2 => ?_) (fun h2 => ?_)
  · (repeat (first | refine gst (hk := ?_) | (show GO _ _ _ _ _ (⟨some _, none, _⟩ :: _) _; first | refine go_op (hk := ?_) | (refine go_nw (hk := ?_); intro u; try simp only [llc, lln, lna, lza]) | (refine go_np (hk := ?_); intro id)) | (show GO _ _ _ _ _ (⟨none, none, _⟩ :: _) _; refine go_st (hk := ?_)) | (show GO _ _ _ _ _ (⟨_, some _, _⟩ :: _) _; first | refine go_in (hk := ?_) | refine go_out (hk := ?_) | refine go_void (hk := ?_)) | (show GK _ _ _ _ (blockK _ _ _); refine gk_past rfl ?_) | (show GC _ _ _ _ _ (.cond _ _ _) _; first | refine gc_yes (h1 := ?_) | refine gc_no (h1 := ?_))))
    exact gk_ret rfl fun H' hH => ⟨by rw [no fun h => by have := h.2.2; omega]; rfl, hH.leE⟩
  (repeat (first | refine gst (hk := ?_) | (show GO _ _ _ _ _ (⟨some _, none, _⟩ :: _) _; first | refine go_op (hk := ?_) | (refine go_nw (hk := ?_); intro u; try simp only [llc, lln, lna, lza]) | (refine go_np (hk := ?_); intro id)) | (show GO _ _ _ _ _ (⟨none, none, _⟩ :: _) _; refine go_st (hk := ?_)) | (show GO _ _ _ _ _ (⟨_, some _, _⟩ :: _) _; first | refine go_in (hk := ?_) | refine go_out (hk := ?_) | refine go_void (hk := ?_)) | (show GK _ _ _ _ (blockK _ _ _); refine gk_past rfl ?_) | (show GC _ _ _ _ _ (.cond _ _ _) _; first | refine gc_yes (h1 := ?_) | refine gc_no (h1 := ?_))))
  refine gc_loop (γ := Nat) (fun i => [(13, a), (14, .int .i64 (xs.length : Int)), (15, .int .i64 (i : Int))]) (fun _ => [.roI a xs.length xs]) (fun i => i ≤ xs.length ∧ ∀ j, j < i → -30 ≤ nth xs j ∧ nth xs j ≤ 30) (fun i => xs.length - i) 0 ⟨Nat.zero_le _, fun k hk => by omega⟩ (hb := ?_)
  rintro i ⟨hi, hp⟩ I ν m hk
  (repeat (first | refine gst (hk := ?_) | (show GO _ _ _ _ _ (⟨some _, none, _⟩ :: _) _; first | refine go_op (hk := ?_) | (refine go_nw (hk := ?_); intro u; try simp only [llc, lln, lna, lza]) | (refine go_np (hk := ?_); intro id)) | (show GO _ _ _ _ _ (⟨none, none, _⟩ :: _) _; refine go_st (hk := ?_)) | (show GO _ _ _ _ _ (⟨_, some _, _⟩ :: _) _; first | refine go_in (hk := ?_) | refine go_out (hk := ?_) | refine go_void (hk := ?_)) | (show GK _ _ _ _ (blockK _ _ _); refine gk_past rfl ?_) | (show GC _ _ _ _ _ (.cond _ _ _) _; first | refine gc_yes (h1 := ?_) | refine gc_no (h1 := ?_))))
  refine gc_cond rfl (fun h => ?_) (fun h => ?_)
  · (repeat (first | refine gst (hk := ?_) | (show GO _ _ _ _ _ (⟨some _, none, _⟩ :: _) _; first | refine go_op (hk := ?_) | (refine go_nw (hk := ?_); intro u; try simp only [llc, lln, lna, lza]) | (refine go_np (hk := ?_); intro id)) | (show GO _ _ _ _ _ (⟨none, none, _⟩ :: _) _; refine go_st (hk := ?_)) | (show GO _ _ _ _ _ (⟨_, some _, _⟩ :: _) _; first | refine go_in (hk := ?_) | refine go_out (hk := ?_) | refine go_void (hk := ?_)) | (show GK _ _ _ _ (blockK _ _ _); refine gk_past rfl ?_) | (show GC _ _ _ _ _ (.cond _ _ _) _; first | refine gc_yes (h1 := ?_) | refine gc_no (h1 := ?_))))
    refine go_split 21 rfl (fun h3 => ?_) (fun h3 => ?_)
    · (repeat (first | refine gst (hk := ?_) | (show GO _ _ _ _ _ (⟨some _, none, _⟩ :: _) _; first | refine go_op (hk := ?_) | (refine go_nw (hk := ?_); intro u; try simp only [llc, lln, lna, lza]) | (refine go_np (hk := ?_); intro id)) | (show GO _ _ _ _ _ (⟨none, none, _⟩ :: _) _; refine go_st (hk := ?_)) | (show GO _ _ _ _ _ (⟨_, some _, _⟩ :: _) _; first | refine go_in (hk := ?_) | refine go_out (hk := ?_) | refine go_void (hk := ?_)) | (show GK _ _ _ _ (blockK _ _ _); refine gk_past rfl ?_) | (show GC _ _ _ _ _ (.cond _ _ _) _; first | refine gc_yes (h1 := ?_) | refine gc_no (h1 := ?_))))
      exact gk_ret rfl fun H' hH => ⟨by rw [no fun hL => by have := hL.x i; omega]; rfl, hH.leE⟩
    (repeat (first | refine gst (hk := ?_) | (show GO _ _ _ _ _ (⟨some _, none, _⟩ :: _) _; first | refine go_op (hk := ?_) | (refine go_nw (hk := ?_); intro u; try simp only [llc, lln, lna, lza]) | (refine go_np (hk := ?_); intro id)) | (show GO _ _ _ _ _ (⟨none, none, _⟩ :: _) _; refine go_st (hk := ?_)) | (show GO _ _ _ _ _ (⟨_, some _, _⟩ :: _) _; first | refine go_in (hk := ?_) | refine go_out (hk := ?_) | refine go_void (hk := ?_)) | (show GK _ _ _ _ (blockK _ _ _); refine gk_past rfl ?_) | (show GC _ _ _ _ _ (.cond _ _ _) _; first | refine gc_yes (h1 := ?_) | refine gc_no (h1 := ?_))))
    refine gc_cond rfl (fun h4 => ?_) (fun h4 => ?_)
    · (repeat (first | refine gst (hk := ?_) | (show GO _ _ _ _ _ (⟨some _, none, _⟩ :: _) _; first | refine go_op (hk := ?_) | (refine go_nw (hk := ?_); intro u; try simp only [llc, lln, lna, lza]) | (refine go_np (hk := ?_); intro id)) | (show GO _ _ _ _ _ (⟨none, none, _⟩ :: _) _; refine go_st (hk := ?_)) | (show GO _ _ _ _ _ (⟨_, some _, _⟩ :: _) _; first | refine go_in (hk := ?_) | refine go_out (hk := ?_) | refine go_void (hk := ?_)) | (show GK _ _ _ _ (blockK _ _ _); refine gk_past rfl ?_) | (show GC _ _ _ _ _ (.cond _ _ _) _; first | refine gc_yes (h1 := ?_) | refine gc_no (h1 := ?_))))
      exact gk_ret rfl fun H' hH => ⟨by rw [no fun hL => by have := hL.x i; omega]; rfl, hH.leE⟩
    · (repeat (first | refine gst (hk := ?_) | (show GO _ _ _ _ _ (⟨some _, none, _⟩ :: _) _; first | refine go_op (hk := ?_) | (refine go_nw (hk := ?_); intro u; try simp only [llc, lln, lna, lza]) | (refine go_np (hk := ?_); intro id)) | (show GO _ _ _ _ _ (⟨none, none, _⟩ :: _) _; refine go_st (hk := ?_)) | (show GO _ _ _ _ _ (⟨_, some _, _⟩ :: _) _; first | refine go_in (hk := ?_) | refine go_out (hk := ?_) | refine go_void (hk := ?_)) | (show GK _ _ _ _ (blockK _ _ _); refine gk_past rfl ?_) | (show GC _ _ _ _ _ (.cond _ _ _) _; first | refine gc_yes (h1 := ?_) | refine gc_no (h1 := ?_))))
      refine gk_next (hk (i + 1) ⟨by omega, fun j hj => ?_⟩ (by omega))
      rcases Nat.lt_or_ge j i with h5 | h5
      · exact hp j h5
      · rw [show j = i by omega]; omega
  · obtain rfl : i = xs.length := by omega
    have h6 : Bd 30 xs := fun x hx => by
      obtain ⟨m, hm, rfl⟩ := nth_ex hx
      exact hp m hm
    (repeat (first | refine gst (hk := ?_) | (show GO _ _ _ _ _ (⟨some _, none, _⟩ :: _) _; first | refine go_op (hk := ?_) | (refine go_nw (hk := ?_); intro u; try simp only [llc, lln, lna, lza]) | (refine go_np (hk := ?_); intro id)) | (show GO _ _ _ _ _ (⟨none, none, _⟩ :: _) _; refine go_st (hk := ?_)) | (show GO _ _ _ _ _ (⟨_, some _, _⟩ :: _) _; first | refine go_in (hk := ?_) | refine go_out (hk := ?_) | refine go_void (hk := ?_)) | (show GK _ _ _ _ (blockK _ _ _); refine gk_past rfl ?_) | (show GC _ _ _ _ _ (.cond _ _ _) _; first | refine gc_yes (h1 := ?_) | refine gc_no (h1 := ?_))))
    exact gk_ret rfl fun H' hH => ⟨by
      have : Steps xs := ⟨h6, by omega, by omega⟩
      simp [tupleOf, this], hH.leE⟩

def OneC (a : AV) : Prop := a.cells = [a] ∧ a.one = true

theorem one_slice {H : Heap} {v : AV} {es n : Nat} {cs : List AV} (h : Vals H v es n cs) : OneC v := by
  have hs := h.sl
  cases v <;> simp [AV.isSlice] at hs <;> exact ⟨rfl, rfl⟩

abbrev nthV (vs : List AV) (i : Nat) : AV := nthA .any vs i

theorem stp_ldV {A : Heap} {X : List Nat} {E : List (Nat × AV)} {S : Sig} {p : MX} {v : AV} {n i : Nat} {vs : List AV} (hp : evE E p = some (v.elem i)) (hh : Has S v 1 n vs) (hn : n = vs.length) (hi : i < vs.length) : Stp A X E S (.ld p 1 false) (Is (nthV vs i) S) :=
  stp_ldn (ds := [nthV vs i]) hp hh (by omega) (by
    rw [Nat.mul_one, show nthV vs i = vs[i] from nthA_of hi, List.drop_eq_getElem_cons hi]; rfl) rfl

structure BK where
  id : Nat
  k : Kd
  v : AV
  s : Nat
  e : Nat

def BKok (b : BK) : Prop := b.k = .rw ∨ (b.k = .ro ∧ ∃ id off, b.v = .slice id off (b.e - b.s) (some (b.e - b.s)) 2)

theorem BKok.kd {b : BK} (h : BKok b) : b.k = .rw ∨ b.k = .ro := h.imp (fun h => h) fun h => h.1

theorem tabS_snoc {α : Type} (n : Nat) (g : Nat → α) : tabS n g ++ [g n] = tabS (n + 1) g := by
  unfold tabS
  rw [List.range_succ, List.map_append]; rfl

structure Cst {α : Type} (op : α → α → α) (le : α → α → Prop) : Prop where
  assoc : ∀ a b c, op (op a b) c = op a (op b c)
  comm : ∀ a b, op a b = op b a
  mono : ∀ {a b} c, le a b → le (op a c) (op b c)
  refl : ∀ a, le a a
  trans : ∀ {a b c}, le a b → le b c → le a c
  anti : ∀ {a b}, le a b → le b a → a = b

inductive Cuts {α : Type} (op : α → α → α) (c : Nat → Nat → α) : Nat → Nat → Nat → α → Prop
  | one {i k : Nat} (h : i < k) : Cuts op c 1 i k (c i k)
  | snoc {p i m k : Nat} {v : α} (h : Cuts op c p i m v) (hk : m < k) : Cuts op c (p + 1) i k (op v (c m k))

theorem Cuts.lt {α : Type} {op : α → α → α} {c : Nat → Nat → α} {p i k : Nat} {v : α} (h : Cuts op c p i k v) : i < k ∧ 1 ≤ p ∧ i + p ≤ k := by
  induction h with
  | one h => omega
  | snoc h hk ih => omega

theorem Cuts.cons {α : Type} {op : α → α → α} {le : α → α → Prop} (hc : Cst op le) {c : Nat → Nat → α} {p i m k : Nat} {v : α} (hi : i < m) (h : Cuts op c p m k v) : Cuts op c (p + 1) i k (op (c i m) v) := by
  induction h with
  | one h => exact .snoc (.one hi) h
  | snoc h hk ih => rw [← hc.assoc]; exact .snoc (ih hi) hk

def LeastC {α : Type} (op : α → α → α) (le : α → α → Prop) (c : Nat → Nat → α) (P i k : Nat) (v : α) : Prop := (∃ q, q ≤ P ∧ Cuts op c q i k v) ∧ ∀ q w, q ≤ P → Cuts op c q i k w → le v w

theorem LeastC.uniq {α : Type} {op : α → α → α} {le : α → α → Prop} (hc : Cst op le) {c : Nat → Nat → α} {P i k : Nat} {v w : α} (h : LeastC op le c P i k v) (h' : LeastC op le c P i k w) : v = w := by
  obtain ⟨⟨q, h1, h2⟩, h3⟩ := h
  obtain ⟨⟨q', h1', h2'⟩, h3'⟩ := h'
  exact hc.anti (h3 _ _ h1' h2') (h3' _ _ h1 h2)

theorem LeastC.pos {α : Type} {op : α → α → α} {le : α → α → Prop} {c : Nat → Nat → α} {P i k : Nat} {v : α} (h : LeastC op le c P i k v) : 1 ≤ P ∧ i < k := by
  obtain ⟨⟨q, h1, h2⟩, _⟩ := h
  have := h2.lt
  omega

theorem leastC_one {α : Type} {op : α → α → α} {le : α → α → Prop} (hc : Cst op le) {c : Nat → Nat → α} {i k : Nat} (h : i < k) : LeastC op le c 1 i k (c i k) := by
  refine ⟨⟨1, Nat.le_refl _, .one h⟩, fun q w hq hw => ?_⟩
  cases hw with
  | one h => exact hc.refl _
  | snoc h hk => have := h.lt; omega

/-- one piece more, at the end -/
theorem leastC_snoc {α : Type} {op : α → α → α} {le : α → α → Prop} (hc : Cst op le) {c : Nat → Nat → α} {P i k : Nat} {v v0 : α} {f : Nat → α} (h0 : LeastC op le c P i k v0) (hf : ∀ m, i < m → m < k → LeastC op le c P i m (f m)) (hv : v = v0 ∨ ∃ m, i < m ∧ m < k ∧ v = op (f m) (c m k)) (h1 : le v v0) (h2 : ∀ m, i < m → m < k → le v (op (f m) (c m k))) : LeastC op le c (P + 1) i k v := by
  refine ⟨?_, fun q w hq hw => ?_⟩
  · rcases hv with rfl | ⟨m, m1, m2, rfl⟩
    · obtain ⟨⟨q, g1, g2⟩, _⟩ := h0
      exact ⟨q, by omega, g2⟩
    · obtain ⟨⟨q, g1, g2⟩, _⟩ := hf m m1 m2
      exact ⟨q + 1, by omega, .snoc g2 m2⟩
  · cases hw with
    | one h => exact hc.trans h1 (h0.2 1 _ h0.pos.1 (.one h))
    | @snoc p _ m _ w' h hk =>
      have hl := h.lt
      exact hc.trans (h2 m hl.1 hk) (hc.mono _ ((hf m hl.1 hk).2 p w' (by omega) h))

theorem LeastC.congr {α : Type} {op : α → α → α} {le : α → α → Prop} {c d : Nat → Nat → α} {n P : Nat} (hd : ∀ i k, i < k → k ≤ n → d i k = c i k) {v : α} (h : LeastC op le d P 0 n v) : LeastC op le c P 0 n v := by
  have key : ∀ {c d : Nat → Nat → α}, (∀ i k, i < k → k ≤ n → d i k = c i k) → ∀ {p i k : Nat} {v : α}, Cuts op d p i k v → k ≤ n → Cuts op c p i k v := by
    intro c d hd p i k v h
    induction h with
    | one h => intro hk; rw [hd _ _ h hk]; exact .one h
    | snoc h hmk ih => intro hk; rw [hd _ _ hmk hk]; exact .snoc (ih (by omega)) hmk
  obtain ⟨⟨q, h1, h2⟩, h3⟩ := h
  exact ⟨⟨q, h1, key hd h2 (Nat.le_refl _)⟩, fun q w hq hw => h3 q w hq (key (fun i k h1 h2 => (hd i k h1 h2).symm) hw (Nat.le_refl _))⟩

theorem cstR : Cst (α := Rat) (· + ·) (· ≤ ·) where
  assoc a b c := Rat.add_assoc a b c
  comm a b := Rat.add_comm a b
  mono c h := by
    grind
  refl a := Rat.le_refl
  trans h1 h2 := Rat.le_trans h1 h2
  anti h1 h2 := Rat.le_antisymm h1 h2

def wsS (xs : List Int) (i d : Nat) : Int := sumY (fun j => nth xs (i + j)) d

def wsQ (xs : List Int) (i d : Nat) : Int := sumY (fun j => nth xs (i + j) * nth xs (i + j)) d

def pieR (xs : List Int) (i k : Nat) : Rat := ((((k - i : Nat) : Int) * wsQ xs i (k - i) - wsS xs i (k - i) * wsS xs i (k - i) : Int) : Rat) / (((k - i : Nat) : Int) : Rat)

theorem ws_bd {xs : List Int} (hb : ∀ j, -30 ≤ nth xs j ∧ nth xs j ≤ 30) (i : Nat) : ∀ d : Nat, (-(30 * (d : Int)) ≤ wsS xs i d ∧ wsS xs i d ≤ 30 * (d : Int)) ∧ 0 ≤ wsQ xs i d ∧ wsQ xs i d ≤ 900 * (d : Int)
  | 0 => by simp [wsS, wsQ, sumY]
  | d + 1 => by
    obtain ⟨⟨a1, a2⟩, a3, a4⟩ := ws_bd hb i d
    have hx := hb (i + d)
    rw [show wsS xs i (d + 1) = wsS xs i d + nth xs (i + d) from rfl, show wsQ xs i (d + 1) = wsQ xs i d + nth xs (i + d) * nth xs (i + d) from rfl]
    generalize nth xs (i + d) = x at *
    have m1 := absmul (k := x) (l := x) (A := 30) (B := 30) (by omega) (by omega) (by omega) (by omega)
    have m0 : 0 ≤ x * x := by
      rcases Int.le_total 0 x with g | g
      · exact Int.mul_nonneg g g
      · have := Int.mul_nonneg (show 0 ≤ -x by omega) (show 0 ≤ -x by omega)
        rwa [Int.neg_mul_neg] at this
    omega

theorem pie_fd {xs : List Int} (hb : ∀ j, -30 ≤ nth xs j ∧ nth xs j ≤ 30) {i k : Nat} (h : i < k) (hk : k ≤ i + 8) : FD (pieR xs i k) (((k - i : Nat) : Int)) 115200 := by
  obtain ⟨a1, a3, a4⟩ := ws_bd hb i (k - i)
  refine FD.div (by omega) ?_
  generalize hn : k - i = n at *
  have m1 := absmul (k := wsS xs i n) (l := wsS xs i n) (A := 240) (B := 240) (by omega) (by omega) (by omega) (by omega)
  have m2 : (n : Int) * wsQ xs i n ≤ 8 * 7200 := Int.mul_le_mul (by omega) (by omega) (by omega) (by omega)
  have m3 : 0 ≤ (n : Int) * wsQ xs i n := Int.mul_nonneg (by omega) (by omega)
  generalize wsS xs i n * wsS xs i n = p at *
  generalize (n : Int) * wsQ xs i n = q at *
  omega

theorem pie_fd2 {xs : List Int} (hb : ∀ j, -30 ≤ nth xs j ∧ nth xs j ≤ 30) {i k : Nat} (h : i < k) (hk : k ≤ i + 8) : FD (pieR xs i k) 840 96768000 := by
  have f := pie_fd hb h hk
  have key : ∃ m : Int, 0 < m ∧ ((k - i : Nat) : Int) * m = 840 ∧ m ≤ 840 := by
    have h1 : k - i = 1 ∨ k - i = 2 ∨ k - i = 3 ∨ k - i = 4 ∨ k - i = 5 ∨ k - i = 6 ∨ k - i = 7 ∨ k - i = 8 := by omega
    rcases h1 with h1 | h1 | h1 | h1 | h1 | h1 | h1 | h1 <;> rw [h1]
    · exact ⟨840, by omega⟩
    · exact ⟨420, by omega⟩
    · exact ⟨280, by omega⟩
    · exact ⟨210, by omega⟩
    · exact ⟨168, by omega⟩
    · exact ⟨140, by omega⟩
    · exact ⟨120, by omega⟩
    · exact ⟨105, by omega⟩
  obtain ⟨m, m1, m2, m3⟩ := key
  exact ((f.lift m1).to m2).mono (by omega)

theorem cuts_fd {xs : List Int} (hb : ∀ j, -30 ≤ nth xs j ∧ nth xs j ≤ 30) {p i k : Nat} {v : Rat} (h : Cuts (· + ·) (pieR xs) p i k v) : k ≤ 8 → FD v 840 (96768000 * (p : Int)) := by
  induction h with
  | @one i k h => intro hk; exact (pie_fd2 hb h (by omega)).mono (by omega)
  | @snoc p i m k v h hmk ih =>
    intro hk
    exact ((ih (by omega)).add (pie_fd2 hb hmk (by omega))).mono (by omega)

def winL (xs : List Int) (i k : Nat) : List Int := (xs.drop i).take (k - i)

theorem win_nth {xs : List Int} {i k j : Nat} (hk : k ≤ xs.length) (hj : j < k - i) : nth (winL xs i k) j = nth xs (i + j) := by
  unfold winL
  have h1 : j < ((xs.drop i).take (k - i)).length := by rw [List.length_take, List.length_drop]; omega
  rw [nth_of h1, nth_of (by omega), List.getElem_take, List.getElem_drop]

structure SelOk {α : Type} (le : α → α → Prop) (sel : α → α → α) : Prop where
  or : ∀ a b, sel a b = a ∨ sel a b = b
  l : ∀ a b, le (sel a b) a
  r : ∀ a b, le (sel a b) b

def selR (a b : Rat) : Rat := if b < a then b else a

theorem selR_ok : SelOk (α := Rat) (· ≤ ·) selR where
  or a b := by unfold selR; split <;> simp
  l a b := by
    unfold selR; split
    · rename_i h; exact Rat.le_of_lt h
    · exact Rat.le_refl
  r a b := by
    unfold selR; split
    · exact Rat.le_refl
    · rename_i h; exact Rat.not_lt.1 h

def seqm {α : Type} (sel : α → α → α) (v0 : α) (g : Nat → α) : Nat → α
  | 0 => v0
  | m + 1 => sel (seqm sel v0 g m) (g (m + 1))

theorem seqm_is {α : Type} {op : α → α → α} {le : α → α → Prop} (hc : Cst op le) {sel : α → α → α} (hs : SelOk le sel) (v0 : α) (g : Nat → α) : ∀ m, (seqm sel v0 g m = v0 ∨ ∃ j, 1 ≤ j ∧ j ≤ m ∧ seqm sel v0 g m = g j) ∧ le (seqm sel v0 g m) v0 ∧ ∀ j, 1 ≤ j → j ≤ m → le (seqm sel v0 g m) (g j)
  | 0 => ⟨.inl rfl, hc.refl _, fun j h1 h2 => by omega⟩
  | m + 1 => by
    obtain ⟨h1, h2, h3⟩ := seqm_is hc hs v0 g m
    rw [seqm]
    refine ⟨?_, hc.trans (hs.l _ _) h2, fun j j1 j2 => ?_⟩
    · rcases hs.or (seqm sel v0 g m) (g (m + 1)) with e | e
      · rw [e]
        rcases h1 with h1 | ⟨j, j1, j2, j3⟩
        · exact .inl h1
        · exact .inr ⟨j, j1, by omega, j3⟩
      · exact .inr ⟨m + 1, by omega, Nat.le_refl _, e⟩
    · rcases Nat.lt_or_ge m j with g1 | g1
      · obtain rfl : j = m + 1 := by omega
        exact hs.r _ _
      · exact hc.trans (hs.l _ _) (h3 j j1 g1)

/-- by steps: p + 1 pieces of the first k numbers -/
def dpF {α : Type} (op : α → α → α) (sel : α → α → α) (c : Nat → Nat → α) : Nat → Nat → α
  | 0, k => c 0 k
  | p + 1, k => seqm sel (dpF op sel c p k) (fun i => op (dpF op sel c p i) (c i k)) (k - 1)

theorem dp_least {α : Type} {op : α → α → α} {le : α → α → Prop} (hc : Cst op le) {sel : α → α → α} (hs : SelOk le sel) (c : Nat → Nat → α) : ∀ p k, 1 ≤ k → LeastC op le c (p + 1) 0 k (dpF op sel c p k)
  | 0, k, hk => leastC_one hc hk
  | p + 1, k, hk => by
    obtain ⟨h1, h2, h3⟩ := seqm_is hc hs (dpF op sel c p k) (fun i => op (dpF op sel c p i) (c i k)) (k - 1)
    refine leastC_snoc hc (f := dpF op sel c p) (dp_least hc hs c p k hk) (fun m m1 m2 => dp_least hc hs c p m m1) ?_ h2 fun m m1 m2 => h3 m m1 (by omega)
    rcases h1 with h1 | ⟨j, j1, j2, j3⟩
    · exact .inl h1
    · exact .inr ⟨j, j1, by omega, j3⟩

theorem Steps.back {xs : List Int} (h : Steps xs) : Steps xs.reverse := ⟨fun x hx => h.1 x (List.mem_reverse.1 hx), by simpa using h.2.1, by simpa using h.2.2⟩

theorem Steps.neg {xs : List Int} (h : Steps xs) : Steps (negL xs) := ⟨fun x hx => by
  unfold negL at hx
  obtain ⟨y, hy, rfl⟩ := List.mem_map.1 hx
  have := h.1 y hy
  omega, by rw [negL_length]; exact h.2.1, by rw [negL_length]; exact h.2.2⟩

def PsOk (xs : List Int) (p : Int) : Prop := Steps xs ∧ (1 ≤ p ∧ p ≤ 8)

noncomputable instance (xs : List Int) (p : Int) : Decidable (PsOk xs p) := Classical.propDecidable _

def PpOk (xs : List Int) (c : Int) : Prop := Steps xs ∧ (0 ≤ c ∧ c ≤ 500)

noncomputable instance (xs : List Int) (c : Int) : Decidable (PpOk xs c) := Classical.propDecidable _

def psR (xs : List Int) (p : Nat) : Rat := dpF (· + ·) selR (pieR xs) (p - 1) xs.length

theorem ps_least {xs : List Int} (h : Steps xs) {p : Nat} (hp : 1 ≤ p) : LeastC (· + ·) (· ≤ ·) (pieR xs) p 0 xs.length (psR xs p) := by
  have := dp_least cstR selR_ok (pieR xs) (p - 1) xs.length h.2.1
  rwa [show p - 1 + 1 = p by omega] at this

theorem ps_fd {xs : List Int} (h : Steps xs) {p : Nat} (hp : 1 ≤ p) : FD (psR xs p) 840 774144000 := by
  obtain ⟨⟨q, h1, h2⟩, _⟩ := ps_least h hp
  have hn := h.2.2
  have := h2.lt
  exact (cuts_fd h.x h2 hn).mono (by omega)

def ppF (xs : List Int) (c : Int) (p : Nat) : Rat := psR xs p + ((c * (p : Int) : Int) : Rat)

def ppN (xs : List Int) (c : Int) : Nat → Nat
  | 0 => 1
  | m + 1 => if ppF xs c (m + 2) < ppF xs c (ppN xs c m) then m + 2 else ppN xs c m

theorem ppN_is (xs : List Int) (c : Int) : ∀ m, (1 ≤ ppN xs c m ∧ ppN xs c m ≤ m + 1) ∧ (∀ p, 1 ≤ p → p ≤ m + 1 → ppF xs c (ppN xs c m) ≤ ppF xs c p) ∧ ∀ p, 1 ≤ p → p < ppN xs c m → ppF xs c p ≠ ppF xs c (ppN xs c m)
  | 0 => ⟨⟨Nat.le_refl _, Nat.le_refl _⟩, fun p h1 h2 => by
      obtain rfl : p = 1 := by omega
      exact Rat.le_refl, fun p h1 h2 => by
      have : ppN xs c 0 = 1 := rfl
      omega⟩
  | m + 1 => by
    obtain ⟨⟨a1, a2⟩, a3, a4⟩ := ppN_is xs c m
    rw [ppN]
    by_cases hc : ppF xs c (m + 2) < ppF xs c (ppN xs c m)
    · rw [if_pos hc]
      refine ⟨⟨by omega, Nat.le_refl _⟩, fun p h1 h2 => ?_, fun p h1 h2 h3 => ?_⟩
      · rcases Nat.lt_or_ge (m + 1) p with g | g
        · obtain rfl : p = m + 2 := by omega
          exact Rat.le_refl
        · exact Rat.le_trans (Rat.le_of_lt hc) (a3 p h1 g)
      · have := a3 p h1 (by omega)
        rw [h3] at this
        exact absurd hc (Rat.not_lt.2 this)
    · rw [if_neg hc]
      refine ⟨⟨a1, by omega⟩, fun p h1 h2 => ?_, a4⟩
      rcases Nat.lt_or_ge (m + 1) p with g | g
      · obtain rfl : p = m + 2 := by omega
        exact Rat.not_lt.1 hc
      · exact a3 p h1 g
/- middles -/

theorem specValidSteps_ok {H : Heap} {a : AV} {xs : List Int} (ha : Ints H a xs) (hl : xs.length ≤ 1000000000) :
    ACalls Try.prog fn_spec_validSteps [a] H fun r H' => r = .bool (decide (Steps xs)) ∧ H' = H := by
  refine ACalls.val ?_ rfl
  refine code_spec_validSteps.go [.roI a xs.length xs] ⟨⟨rfl, ha⟩, trivial⟩ (by simp) ?_
  unfold mc_spec_validSteps
  have no : (Steps xs → False) → decide (Steps xs) = false := fun h => decide_eq_false h
  (repeat (first | refine gst (hk := ?_) | (show GO _ _ _ _ _ (⟨some _, none, .call _ _⟩ :: _) _; first | (show GO _ _ _ _ _ (⟨some _, none, .call fn_spec_inRange _⟩ :: _) _; refine go_inRange (hk := ?_); try intro u)) | (show GO _ _ _ _ _ (⟨some _, none, _⟩ :: _) _; first | refine go_op (hk := ?_) | (refine go_nw (hk := ?_); intro u; try simp only [llc, lln, lna, lza]) | (refine go_np (hk := ?_); intro id)) | (show GO _ _ _ _ _ (⟨none, none, _⟩ :: _) _; refine go_st (hk := ?_)) | (show GO _ _ _ _ _ (⟨_, some _, _⟩ :: _) _; first | refine go_in (hk := ?_) | refine go_out (hk := ?_) | refine go_void (hk := ?_)) | (show GK _ _ _ _ (blockK _ _ _); refine gk_past rfl ?_) | (show GC _ _ _ _ _ (.cond _ _ _) _; first | refine gc_yes (h1 := ?_) | refine gc_no (h1 := ?_))))
  refine gc_loop (γ := Nat) (fun i => [(0, a), (3, .int .i64 (i : Int))]) (fun _ => [.roI a xs.length xs]) (fun i => i ≤ xs.length ∧ ∀ j, j < i → -30 ≤ nth xs j ∧ nth xs j ≤ 30) (fun i => xs.length - i) 0 ⟨Nat.zero_le _, fun k hk => by omega⟩ (hb := ?_)
  rintro i ⟨hi, hp⟩ I ν m hk
  (repeat (first | refine gst (hk := ?_) | (show GO _ _ _ _ _ (⟨some _, none, .call _ _⟩ :: _) _; first | (show GO _ _ _ _ _ (⟨some _, none, .call fn_spec_inRange _⟩ :: _) _; refine go_inRange (hk := ?_); try intro u)) | (show GO _ _ _ _ _ (⟨some _, none, _⟩ :: _) _; first | refine go_op (hk := ?_) | (refine go_nw (hk := ?_); intro u; try simp only [llc, lln, lna, lza]) | (refine go_np (hk := ?_); intro id)) | (show GO _ _ _ _ _ (⟨none, none, _⟩ :: _) _; refine go_st (hk := ?_)) | (show GO _ _ _ _ _ (⟨_, some _, _⟩ :: _) _; first | refine go_in (hk := ?_) | refine go_out (hk := ?_) | refine go_void (hk := ?_)) | (show GK _ _ _ _ (blockK _ _ _); refine gk_past rfl ?_) | (show GC _ _ _ _ _ (.cond _ _ _) _; first | refine gc_yes (h1 := ?_) | refine gc_no (h1 := ?_))))
  refine gc_cond rfl (fun h => ?_) (fun h => ?_)
  · (repeat (first | refine gst (hk := ?_) | (show GO _ _ _ _ _ (⟨some _, none, .call _ _⟩ :: _) _; first | (show GO _ _ _ _ _ (⟨some _, none, .call fn_spec_inRange _⟩ :: _) _; refine go_inRange (hk := ?_); try intro u)) | (show GO _ _ _ _ _ (⟨some _, none, _⟩ :: _) _; first | refine go_op (hk := ?_) | (refine go_nw (hk := ?_); intro u; try simp only [llc, lln, lna, lza]) | (refine go_np (hk := ?_); intro id)) | (show GO _ _ _ _ _ (⟨none, none, _⟩ :: _) _; refine go_st (hk := ?_)) | (show GO _ _ _ _ _ (⟨_, some _, _⟩ :: _) _; first | refine go_in (hk := ?_) | refine go_out (hk := ?_) | refine go_void (hk := ?_)) | (show GK _ _ _ _ (blockK _ _ _); refine gk_past rfl ?_) | (show GC _ _ _ _ _ (.cond _ _ _) _; first | refine gc_yes (h1 := ?_) | refine gc_no (h1 := ?_))))
    refine gc_cond rfl (fun h2 => ?_) (fun h2 => ?_)
    · (repeat (first | refine gst (hk := ?_) | (show GO _ _ _ _ _ (⟨some _, none, .call _ _⟩ :: _) _; first | (show GO _ _ _ _ _ (⟨some _, none, .call fn_spec_inRange _⟩ :: _) _; refine go_inRange (hk := ?_); try intro u)) | (show GO _ _ _ _ _ (⟨some _, none, _⟩ :: _) _; first | refine go_op (hk := ?_) | (refine go_nw (hk := ?_); intro u; try simp only [llc, lln, lna, lza]) | (refine go_np (hk := ?_); intro id)) | (show GO _ _ _ _ _ (⟨none, none, _⟩ :: _) _; refine go_st (hk := ?_)) | (show GO _ _ _ _ _ (⟨_, some _, _⟩ :: _) _; first | refine go_in (hk := ?_) | refine go_out (hk := ?_) | refine go_void (hk := ?_)) | (show GK _ _ _ _ (blockK _ _ _); refine gk_past rfl ?_) | (show GC _ _ _ _ _ (.cond _ _ _) _; first | refine gc_yes (h1 := ?_) | refine gc_no (h1 := ?_))))
      exact gk_ret rfl fun H' hH => ⟨by rw [no fun hL => h2 (hL.x i)]; rfl, hH.leE⟩
    · (repeat (first | refine gst (hk := ?_) | (show GO _ _ _ _ _ (⟨some _, none, .call _ _⟩ :: _) _; first | (show GO _ _ _ _ _ (⟨some _, none, .call fn_spec_inRange _⟩ :: _) _; refine go_inRange (hk := ?_); try intro u)) | (show GO _ _ _ _ _ (⟨some _, none, _⟩ :: _) _; first | refine go_op (hk := ?_) | (refine go_nw (hk := ?_); intro u; try simp only [llc, lln, lna, lza]) | (refine go_np (hk := ?_); intro id)) | (show GO _ _ _ _ _ (⟨none, none, _⟩ :: _) _; refine go_st (hk := ?_)) | (show GO _ _ _ _ _ (⟨_, some _, _⟩ :: _) _; first | refine go_in (hk := ?_) | refine go_out (hk := ?_) | refine go_void (hk := ?_)) | (show GK _ _ _ _ (blockK _ _ _); refine gk_past rfl ?_) | (show GC _ _ _ _ _ (.cond _ _ _) _; first | refine gc_yes (h1 := ?_) | refine gc_no (h1 := ?_))))
      refine gk_next (hk (i + 1) ⟨by omega, fun j hj => ?_⟩ (by omega))
      rcases Nat.lt_or_ge j i with h4 | h4
      · exact hp j h4
      · rw [show j = i by omega]; exact Decidable.not_not.1 h2
  · obtain rfl : i = xs.length := by omega
    have h6 : Bd 30 xs := fun x hx => by
      obtain ⟨m, hm, rfl⟩ := nth_ex hx
      exact hp m hm
    (repeat (first | refine gst (hk := ?_) | (show GO _ _ _ _ _ (⟨some _, none, .call _ _⟩ :: _) _; first | (show GO _ _ _ _ _ (⟨some _, none, .call fn_spec_inRange _⟩ :: _) _; refine go_inRange (hk := ?_); try intro u)) | (show GO _ _ _ _ _ (⟨some _, none, _⟩ :: _) _; first | refine go_op (hk := ?_) | (refine go_nw (hk := ?_); intro u; try simp only [llc, lln, lna, lza]) | (refine go_np (hk := ?_); intro id)) | (show GO _ _ _ _ _ (⟨none, none, _⟩ :: _) _; refine go_st (hk := ?_)) | (show GO _ _ _ _ _ (⟨_, some _, _⟩ :: _) _; first | refine go_in (hk := ?_) | refine go_out (hk := ?_) | refine go_void (hk := ?_)) | (show GK _ _ _ _ (blockK _ _ _); refine gk_past rfl ?_) | (show GC _ _ _ _ _ (.cond _ _ _) _; first | refine gc_yes (h1 := ?_) | refine gc_no (h1 := ?_))))
    exact gk_ret rfl fun H' hH => ⟨by
      simp only [tupleOf]; congr 1
      exact decide_eq_decide.2 ⟨fun h7 => ⟨h6, by omega, by omega⟩, fun h7 => ⟨by have := h7.2.1; omega, by have := h7.2.2; omega⟩⟩, hH.leE⟩

theorem specMiss_ok {H : Heap} {a : AV} {xs : List Int} {i k : Nat} (ha : Ints H a xs) (hS : Steps xs) (h1 : i < k) (h2 : k ≤ xs.length) :
    ACalls Try.prog fn_spec_miss [a, .int .i64 (i : Int), .int .i64 (k : Int)] H fun r H' => r = frV (pieR xs i k) ∧ H' = H := by
  refine ACalls.val ?_ rfl
  have hn := hS.2.2
  refine code_spec_miss.go [.roI a xs.length xs] ⟨⟨rfl, ha⟩, trivial⟩ (by simp) ?_
  unfold mc_spec_miss
  (repeat (first | refine gst (hk := ?_) | (with_reducible refine gc_drq ?_; intro _) | (show GO _ _ _ _ _ (⟨some _, none, _⟩ :: _) _; first | refine go_op (hk := ?_) | (refine go_nw (hk := ?_); intro u; try simp only [llc, lln, lna, lza]) | (refine go_np (hk := ?_); intro id)) | (show GQ _ _ _ _ _ _ _ (⟨some _, none, _⟩ :: _) _; first | refine gq_op (hk := ?_) | (refine gq_nw (hk := ?_); intro u; try simp only [llc, lln, lna, lza])) | (show GO _ _ _ _ _ (⟨none, none, _⟩ :: _) _; refine go_st (hk := ?_)) | (show GO _ _ _ _ _ (⟨_, some _, _⟩ :: _) _; first | refine go_in (hk := ?_) | refine go_out (hk := ?_) | refine go_void (hk := ?_)) | (show GQ _ _ _ _ _ _ _ (⟨_, some _, _⟩ :: _) _; first | refine gq_in (hk := ?_) | refine gq_out (hk := ?_) | refine gq_void (hk := ?_)) | (show GK _ _ _ _ (blockK _ _ _); refine gk_past rfl ?_) | (show GC _ _ _ _ _ (.cond _ _ _) _; first | refine gc_yes (h1 := ?_) | refine gc_no (h1 := ?_))))
  revert id; intro i6
  refine gc_up (k - i) (fun d => [(0, a), (2, .int .i64 (k : Int)), (6, .ptr i6 0), (7, .int .i64 ((k - i : Nat) : Int)), (8, .int .i64 (wsS xs i d)), (9, .int .i64 (wsQ xs i d)), (10, .int .i64 ((i + d : Nat) : Int))]) (fun _ => [cel0 i6, .roI a xs.length xs]) (hb := ?_)
  intro d hd I ν m hk
  obtain ⟨⟨a1, a2⟩, a3, a4⟩ := ws_bd hS.x i d
  (repeat (first | refine gst (hk := ?_) | (with_reducible refine gc_drq ?_; intro _) | (show GO _ _ _ _ _ (⟨some _, none, _⟩ :: _) _; first | refine go_op (hk := ?_) | (refine go_nw (hk := ?_); intro u; try simp only [llc, lln, lna, lza]) | (refine go_np (hk := ?_); intro id)) | (show GQ _ _ _ _ _ _ _ (⟨some _, none, _⟩ :: _) _; first | refine gq_op (hk := ?_) | (refine gq_nw (hk := ?_); intro u; try simp only [llc, lln, lna, lza])) | (show GO _ _ _ _ _ (⟨none, none, _⟩ :: _) _; refine go_st (hk := ?_)) | (show GO _ _ _ _ _ (⟨_, some _, _⟩ :: _) _; first | refine go_in (hk := ?_) | refine go_out (hk := ?_) | refine go_void (hk := ?_)) | (show GQ _ _ _ _ _ _ _ (⟨_, some _, _⟩ :: _) _; first | refine gq_in (hk := ?_) | refine gq_out (hk := ?_) | refine gq_void (hk := ?_)) | (show GK _ _ _ _ (blockK _ _ _); refine gk_past rfl ?_) | (show GC _ _ _ _ _ (.cond _ _ _) _; first | refine gc_yes (h1 := ?_) | refine gc_no (h1 := ?_))))
  refine gc_cond rfl (fun h => ?_) (fun h => ?_)
  · have hk := hk (by omega)
    have hx := hS.x (i + d)
    have m1 := absmul (k := nth xs (i + d)) (l := nth xs (i + d)) (A := 30) (B := 30) (by omega) (by omega) (by omega) (by omega)
    rw [show wsS xs i (d + 1) = wsS xs i d + nth xs (i + d) from rfl, show wsQ xs i (d + 1) = wsQ xs i d + nth xs (i + d) * nth xs (i + d) from rfl] at hk
    (repeat (first | refine gst (hk := ?_) | (with_reducible refine gc_drq ?_; intro _) | (show GO _ _ _ _ _ (⟨some _, none, _⟩ :: _) _; first | refine go_op (hk := ?_) | (refine go_nw (hk := ?_); intro u; try simp only [llc, lln, lna, lza]) | (refine go_np (hk := ?_); intro id)) | (show GQ _ _ _ _ _ _ _ (⟨some _, none, _⟩ :: _) _; first | refine gq_op (hk := ?_) | (refine gq_nw (hk := ?_); intro u; try simp only [llc, lln, lna, lza])) | (show GO _ _ _ _ _ (⟨none, none, _⟩ :: _) _; refine go_st (hk := ?_)) | (show GO _ _ _ _ _ (⟨_, some _, _⟩ :: _) _; first | refine go_in (hk := ?_) | refine go_out (hk := ?_) | refine go_void (hk := ?_)) | (show GQ _ _ _ _ _ _ _ (⟨_, some _, _⟩ :: _) _; first | refine gq_in (hk := ?_) | refine gq_out (hk := ?_) | refine gq_void (hk := ?_)) | (show GK _ _ _ _ (blockK _ _ _); refine gk_past rfl ?_) | (show GC _ _ _ _ _ (.cond _ _ _) _; first | refine gc_yes (h1 := ?_) | refine gc_no (h1 := ?_))))
    exact gk_next hk
  · obtain rfl : d = k - i := by omega
    have m1 := absmul (k := wsS xs i (k - i)) (l := wsS xs i (k - i)) (A := 240) (B := 240) (by omega) (by omega) (by omega) (by omega)
    have m2 : ((k - i : Nat) : Int) * wsQ xs i (k - i) ≤ 8 * 7200 := Int.mul_le_mul (by omega) (by omega) (by omega) (by omega)
    have m3 : 0 ≤ ((k - i : Nat) : Int) * wsQ xs i (k - i) := Int.mul_nonneg (by omega) (by omega)
    (repeat (first | refine gst (hk := ?_) | (with_reducible refine gc_drq ?_; intro _) | (show GO _ _ _ _ _ (⟨some _, none, _⟩ :: _) _; first | refine go_op (hk := ?_) | (refine go_nw (hk := ?_); intro u; try simp only [llc, lln, lna, lza]) | (refine go_np (hk := ?_); intro id)) | (show GQ _ _ _ _ _ _ _ (⟨some _, none, _⟩ :: _) _; first | refine gq_op (hk := ?_) | (refine gq_nw (hk := ?_); intro u; try simp only [llc, lln, lna, lza])) | (show GO _ _ _ _ _ (⟨none, none, _⟩ :: _) _; refine go_st (hk := ?_)) | (show GO _ _ _ _ _ (⟨_, some _, _⟩ :: _) _; first | refine go_in (hk := ?_) | refine go_out (hk := ?_) | refine go_void (hk := ?_)) | (show GQ _ _ _ _ _ _ _ (⟨_, some _, _⟩ :: _) _; first | refine gq_in (hk := ?_) | refine gq_out (hk := ?_) | refine gq_void (hk := ?_)) | (show GK _ _ _ _ (blockK _ _ _); refine gk_past rfl ?_) | (show GC _ _ _ _ _ (.cond _ _ _) _; first | refine gc_yes (h1 := ?_) | refine gc_no (h1 := ?_))))
    refine go_callp rfl code_spec_frac.callable (fun H hH => frac_ok (a := ((k - i : Nat) : Int) * wsQ xs i (k - i) - wsS xs i (k - i) * wsS xs i (k - i)) (b := ((k - i : Nat) : Int)) (by omega) (by omega) (by omega)) ?_
    rw [show ((((k - i : Nat) : Int) * wsQ xs i (k - i) - wsS xs i (k - i) * wsS xs i (k - i) : Int) : Rat) / (((k - i : Nat) : Int) : Rat) = pieR xs i k from rfl]
    (repeat (first | refine gst (hk := ?_) | (with_reducible refine gc_drq ?_; intro _) | (show GO _ _ _ _ _ (⟨some _, none, _⟩ :: _) _; first | refine go_op (hk := ?_) | (refine go_nw (hk := ?_); intro u; try simp only [llc, lln, lna, lza]) | (refine go_np (hk := ?_); intro id)) | (show GQ _ _ _ _ _ _ _ (⟨some _, none, _⟩ :: _) _; first | refine gq_op (hk := ?_) | (refine gq_nw (hk := ?_); intro u; try simp only [llc, lln, lna, lza])) | (show GO _ _ _ _ _ (⟨none, none, _⟩ :: _) _; refine go_st (hk := ?_)) | (show GO _ _ _ _ _ (⟨_, some _, _⟩ :: _) _; first | refine go_in (hk := ?_) | refine go_out (hk := ?_) | refine go_void (hk := ?_)) | (show GQ _ _ _ _ _ _ _ (⟨_, some _, _⟩ :: _) _; first | refine gq_in (hk := ?_) | refine gq_out (hk := ?_) | refine gq_void (hk := ?_)) | (show GK _ _ _ _ (blockK _ _ _); refine gk_past rfl ?_) | (show GC _ _ _ _ _ (.cond _ _ _) _; first | refine gc_yes (h1 := ?_) | refine gc_no (h1 := ?_))))
    exact gk_rets (rvs_c rfl (by exact Sel.auto) rfl rfl rvs_nil) fun H' hH => ⟨rfl, hH.leE⟩

def lmK (xs : List Int) (p k : Nat) : Rat := if k = 0 then ((0 : Int) : Rat) else dpF (· + ·) selR (pieR xs) p k

abbrev rowL (xs : List Int) (p : Nat) : List Rat := tabS (xs.length + 1) (lmK xs p)

abbrev lmCh (xs : List Int) (vs : List AV) (j : Nat) : Ch := ⟨.rw, nthV vs j, 2, xs.length + 1, frs (rowL xs j)⟩

abbrev lmS (xs : List Int) (vs : List AV) : Sig := (List.range vs.length).map (lmCh xs vs)

theorem nthV_app {vs : List AV} {v : AV} {j : Nat} (h : j < vs.length) : nthV (vs ++ [v]) j = nthV vs j := by
  rw [show nthV (vs ++ [v]) j = (vs ++ [v])[j]'(by simp; omega) from nthA_of _, show nthV vs j = vs[j] from nthA_of h, List.getElem_append_left h]

theorem nthV_last (vs : List AV) (v : AV) : nthV (vs ++ [v]) vs.length = v := by
  rw [show nthV (vs ++ [v]) vs.length = (vs ++ [v])[vs.length]'(by simp) from nthA_of _, List.getElem_append_right (Nat.le_refl _)]
  simp

theorem lmS_snoc (xs : List Int) (vs : List AV) (v : AV) : lmS xs (vs ++ [v]) = lmS xs vs ++ [⟨.rw, v, 2, xs.length + 1, frs (rowL xs vs.length)⟩] := by
  unfold lmS
  rw [List.length_append, List.length_singleton, List.range_succ, List.map_append]
  congr 1
  · refine List.map_congr_left fun j hj => ?_
    have hj := List.mem_range.1 hj
    unfold lmCh
    rw [nthV_app hj]
  · simp only [List.map_cons, List.map_nil, lmCh, nthV_last]

theorem lm_has' {xs : List Int} {vs : List AV} {j : Nat} (h : j < vs.length) (T : Sig) : Has (T ++ lmS xs vs) (nthV vs j) 2 (xs.length + 1) (frs (rowL xs j)) :=
  has_memk (c := lmCh xs vs j) (List.mem_append_right _ (List.mem_map.2 ⟨j, List.mem_range.2 h, rfl⟩)) (.inl rfl)

theorem fit9 {p q : Rat} (hp : FD p 840 2000000000) (hq : FD q 840 2000000000) : FitA p q := fitA_of hp hq (by omega) (by omega) (by omega)

theorem Steps.dp_fd {xs : List Int} (h : Steps xs) {p k : Nat} (h1 : 1 ≤ k) (h2 : k ≤ xs.length) : FD (dpF (· + ·) selR (pieR xs) p k) 840 774144000 := by
  obtain ⟨⟨q, g1, g2⟩, _⟩ := dp_least cstR selR_ok (pieR xs) p k h1
  have hn := h.2.2
  have := g2.lt
  exact (cuts_fd h.x g2 (by omega)).mono (by omega)

theorem Steps.pie_fd {xs : List Int} (h : Steps xs) {i k : Nat} (h1 : i < k) (h2 : k ≤ xs.length) : FD (pieR xs i k) 840 96768000 := by
  have hn := h.2.2
  exact pie_fd2 h.x h1 (by omega)

theorem seq_fd {v0 : Rat} {g : Nat → Rat} {D B : Int} {m : Nat} (h0 : FD v0 D B) (hg : ∀ j, 1 ≤ j → j ≤ m → FD (g j) D B) : FD (seqm selR v0 g m) D B := by
  rcases (seqm_is cstR selR_ok v0 g m).1 with e | ⟨j, h1, h2, e⟩
  · rw [e]; exact h0
  · rw [e]; exact hg j h1 h2

/-- a candidate: the pieces of the first i numbers, and one up to k -/
def caF (xs : List Int) (p k i : Nat) : Rat := dpF (· + ·) selR (pieR xs) p i + pieR xs i k

theorem Steps.ca_fd {xs : List Int} (h : Steps xs) {p k i : Nat} (h1 : 1 ≤ i) (h2 : i < k) (h3 : k ≤ xs.length) : FD (caF xs p k i) 840 870912000 :=
  ((h.dp_fd h1 (by omega)).add (h.pie_fd h2 h3)).mono (by omega)

theorem dMiss_ok {A : Heap} {X : List Nat} {S : Sig} {H0 H : Heap} {a : AV} {xs : List Int} {i k : Nat} (hH0 : SOk A X S H0.size H0) (hg : ∀ id, id < H0.size → H.get id = H0.get id) (ha : Has S a 1 xs.length (ints xs)) (hS : Steps xs) (h1 : i < k) (h2 : k ≤ xs.length) :
    ACalls Try.prog fn_spec_miss [a, .int .i64 (i : Int), .int .i64 (k : Int)] H fun r H' => r = frV (pieR xs i k) ∧ H' = H :=
  acalls_vals (hH0.ints ha) hg (by omega) fun ha' => specMiss_ok ha' hS h1 h2

theorem sub_snoc (c : Ch) : ∀ L : Sig, Sub (c :: L) (L ++ [c])
  | [] => sub_refl _
  | _ :: L => .cons (.tail .head) (sub_snoc c L)

end Go.Rx.Try
