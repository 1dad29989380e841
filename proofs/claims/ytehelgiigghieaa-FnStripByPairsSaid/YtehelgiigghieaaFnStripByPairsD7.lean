import Derived.Test.YtehelgiigghieaaFnStripByPairsD6
namespace Go.Rx.Try
open Go.Proofs
set_option maxRecDepth 100000
set_option maxHeartbeats 8000000
set_option linter.unusedSimpArgs false
set_option linter.unusedVariables false

theorem withoutP_ok {H : Heap} {w : AV} {L : List (Int × Int)} {i : Nat} (hw : Vals H w 2 L.length (pns L)) (hi : i < L.length) (hl : L.length ≤ 1000000) :
    ACalls Try.prog fn_impl_without [w, .int .i64 (i : Int)] H fun r H' => Own H H' r 2 (L.length - 1) (pns (L.eraseIdx i)) ∧ Le H H' := by
  refine code_impl_without.go [roP w L.length L] ⟨⟨rfl, hw⟩, trivial⟩ (by simp) ?_
  unfold mc_impl_without
  (repeat (first | refine gst (hk := ?_) | (with_reducible first | (refine gc_drw (h := ?_); intro _) | (refine gc_drw2 (h := ?_); intro _)) | (show GO _ _ _ _ _ (⟨some _, none, _⟩ :: _) _; first | refine go_op (hk := ?_) | (refine go_nw (hk := ?_); intro u; try simp only [llc, lln, lna, lza]) | (refine go_np (hk := ?_); intro id)) | (show GD _ _ _ _ _ _ _ (⟨some _, none, _⟩ :: _) _; first | refine gd_op (hk := ?_) | (refine gd_nw (hk := ?_); intro u; try simp only [llc, lln, lna, lza])) | (show GD2 _ _ _ _ _ _ _ _ _ _ _ _ _ _; first | refine gd2_nil rfl ?_ | refine gd2_op (hk := ?_) | (refine gd2_nw (hk := ?_); intro u; try simp only [llc, lln, lna, lza]) | refine gd2_l (hk := ?_) | refine gd2_lp (hk := ?_) | (refine gd2_newp (hk := ?_); intro id) | refine gd2_st (hk := ?_) | (refine gd2_bsl rfl rfl ?_; intro u; try simp only [llc, lln, lna, lza]) | (refine gd2_a (hk := ?_); intro u; try simp only [llc, lln, lna, lza])) | (show GO _ _ _ _ _ (⟨none, none, _⟩ :: _) _; refine go_st (hk := ?_)) | (show GD _ _ _ _ _ _ _ (⟨none, none, _⟩ :: _) _; refine gd_st (hk := ?_)) | (show GO _ _ _ _ _ (⟨_, some _, _⟩ :: _) _; first | refine go_in (hk := ?_) | refine go_out (hk := ?_) | refine go_void (hk := ?_)) | (show GK _ _ _ _ (blockK _ _ _); refine gk_past rfl ?_) | (show GC _ _ _ _ _ (.cond _ _ _) _; first | refine gc_yes (h1 := ?_) | refine gc_no (h1 := ?_))))
  refine go_new rfl (stp_mkK cels_pn (0, 0) (L.length - 1) rfl rfl (by omega) rfl (by omega) (by omega)) ?_
  intro u
  (repeat (first | refine gst (hk := ?_) | (with_reducible first | (refine gc_drw (h := ?_); intro _) | (refine gc_drw2 (h := ?_); intro _)) | (show GO _ _ _ _ _ (⟨some _, none, _⟩ :: _) _; first | refine go_op (hk := ?_) | (refine go_nw (hk := ?_); intro u; try simp only [llc, lln, lna, lza]) | (refine go_np (hk := ?_); intro id)) | (show GD _ _ _ _ _ _ _ (⟨some _, none, _⟩ :: _) _; first | refine gd_op (hk := ?_) | (refine gd_nw (hk := ?_); intro u; try simp only [llc, lln, lna, lza])) | (show GD2 _ _ _ _ _ _ _ _ _ _ _ _ _ _; first | refine gd2_nil rfl ?_ | refine gd2_op (hk := ?_) | (refine gd2_nw (hk := ?_); intro u; try simp only [llc, lln, lna, lza]) | refine gd2_l (hk := ?_) | refine gd2_lp (hk := ?_) | (refine gd2_newp (hk := ?_); intro id) | refine gd2_st (hk := ?_) | (refine gd2_bsl rfl rfl ?_; intro u; try simp only [llc, lln, lna, lza]) | (refine gd2_a (hk := ?_); intro u; try simp only [llc, lln, lna, lza])) | (show GO _ _ _ _ _ (⟨none, none, _⟩ :: _) _; refine go_st (hk := ?_)) | (show GD _ _ _ _ _ _ _ (⟨none, none, _⟩ :: _) _; refine gd_st (hk := ?_)) | (show GO _ _ _ _ _ (⟨_, some _, _⟩ :: _) _; first | refine go_in (hk := ?_) | refine go_out (hk := ?_) | refine go_void (hk := ?_)) | (show GK _ _ _ _ (blockK _ _ _); refine gk_past rfl ?_) | (show GC _ _ _ _ _ (.cond _ _ _) _; first | refine gc_yes (h1 := ?_) | refine gc_no (h1 := ?_))))
  refine go_new rfl (stp_slK cels_pn (l := 0) (h := i) rfl (by exact Sel.auto) (.inl ⟨rfl, rfl⟩) (.inr ⟨_, rfl, rfl⟩) (by omega)) ?_
  intro u1
  have e1 : ((L.drop 0).take (i - 0)).length = i := by simp; omega
  refine go_is rfl (stp_cpyW cels_pn (by omega) (l := 0) (v := u) (M := (L.drop 0).take (i - 0)) rfl (.inr ⟨rfl, rfl⟩) rfl (by exact Has.auto) (by exact Sel.auto) (by simp) (by rw [e1]; omega) (by omega)) ?_
  have eM : (List.replicate (L.length - 1) ((0 : Int), (0 : Int))).take 0 ++ (L.drop 0).take (i - 0) ++ (List.replicate (L.length - 1) ((0 : Int), (0 : Int))).drop (0 + (i - 0)) = L.take i ++ List.replicate (L.length - 1 - i) ((0 : Int), (0 : Int)) := by
    simp
  rw [eM]
  (repeat (first | refine gst (hk := ?_) | (with_reducible first | (refine gc_drw (h := ?_); intro _) | (refine gc_drw2 (h := ?_); intro _)) | (show GO _ _ _ _ _ (⟨some _, none, _⟩ :: _) _; first | refine go_op (hk := ?_) | (refine go_nw (hk := ?_); intro u; try simp only [llc, lln, lna, lza]) | (refine go_np (hk := ?_); intro id)) | (show GD _ _ _ _ _ _ _ (⟨some _, none, _⟩ :: _) _; first | refine gd_op (hk := ?_) | (refine gd_nw (hk := ?_); intro u; try simp only [llc, lln, lna, lza])) | (show GD2 _ _ _ _ _ _ _ _ _ _ _ _ _ _; first | refine gd2_nil rfl ?_ | refine gd2_op (hk := ?_) | (refine gd2_nw (hk := ?_); intro u; try simp only [llc, lln, lna, lza]) | refine gd2_l (hk := ?_) | refine gd2_lp (hk := ?_) | (refine gd2_newp (hk := ?_); intro id) | refine gd2_st (hk := ?_) | (refine gd2_bsl rfl rfl ?_; intro u; try simp only [llc, lln, lna, lza]) | (refine gd2_a (hk := ?_); intro u; try simp only [llc, lln, lna, lza])) | (show GO _ _ _ _ _ (⟨none, none, _⟩ :: _) _; refine go_st (hk := ?_)) | (show GD _ _ _ _ _ _ _ (⟨none, none, _⟩ :: _) _; refine gd_st (hk := ?_)) | (show GO _ _ _ _ _ (⟨_, some _, _⟩ :: _) _; first | refine go_in (hk := ?_) | refine go_out (hk := ?_) | refine go_void (hk := ?_)) | (show GK _ _ _ _ (blockK _ _ _); refine gk_past rfl ?_) | (show GC _ _ _ _ _ (.cond _ _ _) _; first | refine gc_yes (h1 := ?_) | refine gc_no (h1 := ?_))))
  refine gd_is rfl (stp_slw (l := i) rfl rfl (by exact Sel.auto) (by omega)) ?_
  (repeat (first | refine gst (hk := ?_) | (with_reducible first | (refine gc_drw (h := ?_); intro _) | (refine gc_drw2 (h := ?_); intro _)) | (show GO _ _ _ _ _ (⟨some _, none, _⟩ :: _) _; first | refine go_op (hk := ?_) | (refine go_nw (hk := ?_); intro u; try simp only [llc, lln, lna, lza]) | (refine go_np (hk := ?_); intro id)) | (show GD _ _ _ _ _ _ _ (⟨some _, none, _⟩ :: _) _; first | refine gd_op (hk := ?_) | (refine gd_nw (hk := ?_); intro u; try simp only [llc, lln, lna, lza])) | (show GD2 _ _ _ _ _ _ _ _ _ _ _ _ _ _; first | refine gd2_nil rfl ?_ | refine gd2_op (hk := ?_) | (refine gd2_nw (hk := ?_); intro u; try simp only [llc, lln, lna, lza]) | refine gd2_l (hk := ?_) | refine gd2_lp (hk := ?_) | (refine gd2_newp (hk := ?_); intro id) | refine gd2_st (hk := ?_) | (refine gd2_bsl rfl rfl ?_; intro u; try simp only [llc, lln, lna, lza]) | (refine gd2_a (hk := ?_); intro u; try simp only [llc, lln, lna, lza])) | (show GO _ _ _ _ _ (⟨none, none, _⟩ :: _) _; refine go_st (hk := ?_)) | (show GD _ _ _ _ _ _ _ (⟨none, none, _⟩ :: _) _; refine gd_st (hk := ?_)) | (show GO _ _ _ _ _ (⟨_, some _, _⟩ :: _) _; first | refine go_in (hk := ?_) | refine go_out (hk := ?_) | refine go_void (hk := ?_)) | (show GK _ _ _ _ (blockK _ _ _); refine gk_past rfl ?_) | (show GC _ _ _ _ _ (.cond _ _ _) _; first | refine gc_yes (h1 := ?_) | refine gc_no (h1 := ?_))))
  refine gd_new rfl (stp_slK cels_pn (l := i + 1) (h := L.length) rfl (by exact Sel.auto) (.inr ⟨_, rfl, rfl⟩) (.inl ⟨rfl, rfl⟩) (by omega)) ?_
  intro u2
  have e2 : ((L.drop (i + 1)).take (L.length - (i + 1))).length = L.length - (i + 1) := by simp
  refine gd_is rfl (stp_cpyW cels_pn (by omega) (l := i) (v := u) (M := (L.drop (i + 1)).take (L.length - (i + 1))) rfl (.inl rfl) rfl (by exact Has.auto) (by exact Sel.auto) (by simp; omega) e2.symm (by omega)) ?_
  have eF : (L.take i ++ List.replicate (L.length - 1 - i) ((0 : Int), (0 : Int))).take i ++ (L.drop (i + 1)).take (L.length - (i + 1)) ++ (L.take i ++ List.replicate (L.length - 1 - i) ((0 : Int), (0 : Int))).drop (i + (L.length - (i + 1))) = L.eraseIdx i := by
    have e5 : (L.take i ++ List.replicate (L.length - 1 - i) ((0 : Int), (0 : Int))).drop (i + (L.length - (i + 1))) = [] := List.drop_eq_nil_of_le (by rw [List.length_append, List.length_take, List.length_replicate]; omega)
    rw [e5, List.append_nil, List.eraseIdx_eq_take_drop_succ, List.take_append_of_le_length (by rw [List.length_take]; omega), List.take_take, Nat.min_self, List.take_of_length_le (l := L.drop (i + 1)) (by rw [List.length_drop]; omega)]
  rw [eF]
  (repeat (first | refine gst (hk := ?_) | (with_reducible first | (refine gc_drw (h := ?_); intro _) | (refine gc_drw2 (h := ?_); intro _)) | (show GO _ _ _ _ _ (⟨some _, none, _⟩ :: _) _; first | refine go_op (hk := ?_) | (refine go_nw (hk := ?_); intro u; try simp only [llc, lln, lna, lza]) | (refine go_np (hk := ?_); intro id)) | (show GD _ _ _ _ _ _ _ (⟨some _, none, _⟩ :: _) _; first | refine gd_op (hk := ?_) | (refine gd_nw (hk := ?_); intro u; try simp only [llc, lln, lna, lza])) | (show GD2 _ _ _ _ _ _ _ _ _ _ _ _ _ _; first | refine gd2_nil rfl ?_ | refine gd2_op (hk := ?_) | (refine gd2_nw (hk := ?_); intro u; try simp only [llc, lln, lna, lza]) | refine gd2_l (hk := ?_) | refine gd2_lp (hk := ?_) | (refine gd2_newp (hk := ?_); intro id) | refine gd2_st (hk := ?_) | (refine gd2_bsl rfl rfl ?_; intro u; try simp only [llc, lln, lna, lza]) | (refine gd2_a (hk := ?_); intro u; try simp only [llc, lln, lna, lza])) | (show GO _ _ _ _ _ (⟨none, none, _⟩ :: _) _; refine go_st (hk := ?_)) | (show GD _ _ _ _ _ _ _ (⟨none, none, _⟩ :: _) _; refine gd_st (hk := ?_)) | (show GO _ _ _ _ _ (⟨_, some _, _⟩ :: _) _; first | refine go_in (hk := ?_) | refine go_out (hk := ?_) | refine go_void (hk := ?_)) | (show GK _ _ _ _ (blockK _ _ _); refine gk_past rfl ?_) | (show GC _ _ _ _ _ (.cond _ _ _) _; first | refine gc_yes (h1 := ?_) | refine gc_no (h1 := ?_))))
  exact gk_ret rfl fun H' hH => hH.give .head
/- the gaps -/

def gap3 (p q r : Int × Int) : Rat := absR (((p.2 : Int) : Rat) - (thS q r * ((p.1 : Int) : Rat) + thH q r))

abbrev btw (p q r : Int × Int) : Prop := min q.1 r.1 ≤ p.1 ∧ p.1 ≤ max q.1 r.1

def gp1 (p q r : Int × Int) : List Rat := if q.1 ≠ r.1 ∧ btw p q r then [gap3 p q r] else []

def gpI (L : List (Int × Int)) (p : Int × Int) (a : Nat) : Nat → List Rat := catN fun m => gp1 p (nthP L a) (nthP L (a + 1 + m))

def gpQ (L : List (Int × Int)) (p : Int × Int) (n : Nat) : Nat → List Rat := catN fun a => gpI L p a (n - (a + 1))

def gpT (L : List (Int × Int)) : Nat → List Rat := catN fun i => gpQ (L.eraseIdx i) (nthP L i) (L.length - 1) (L.length - 1)

theorem gpI_len (L : List (Int × Int)) (p : Int × Int) (a : Nat) : ∀ m, (gpI L p a m).length ≤ m
  | 0 => Nat.le_refl _
  | m + 1 => by
    have := gpI_len L p a m
    have h : (gp1 p (nthP L a) (nthP L (a + 1 + m))).length ≤ 1 := by unfold gp1; split <;> simp
    show (gpI L p a m ++ gp1 p (nthP L a) (nthP L (a + 1 + m))).length ≤ m + 1
    rw [List.length_append]; omega

theorem gpQ_len (L : List (Int × Int)) (p : Int × Int) (n : Nat) : ∀ a, (gpQ L p n a).length ≤ a * n
  | 0 => by simp [gpQ, catN]
  | a + 1 => by
    have h1 := gpQ_len L p n a
    have h2 := gpI_len L p a (n - (a + 1))
    show (gpQ L p n a ++ gpI L p a (n - (a + 1))).length ≤ (a + 1) * n
    rw [List.length_append, Nat.add_mul]; omega

theorem gpT_len (L : List (Int × Int)) : ∀ i, (gpT L i).length ≤ i * ((L.length - 1) * (L.length - 1))
  | 0 => by simp [gpT, catN]
  | i + 1 => by
    have h1 := gpT_len L i
    have h2 := gpQ_len (L.eraseIdx i) (nthP L i) (L.length - 1) (L.length - 1)
    show (gpT L i ++ gpQ (L.eraseIdx i) (nthP L i) (L.length - 1) (L.length - 1)).length ≤ (i + 1) * ((L.length - 1) * (L.length - 1))
    rw [List.length_append, Nat.add_mul]; omega

theorem gpT_mem {L : List (Int × Int)} {v : Rat} {n : Nat} : v ∈ gpT L n ↔ ∃ k a b, k < n ∧ a < b ∧ b < L.length - 1 ∧ ((nthP (L.eraseIdx k) a).1 ≠ (nthP (L.eraseIdx k) b).1 ∧ btw (nthP L k) (nthP (L.eraseIdx k) a) (nthP (L.eraseIdx k) b)) ∧ v = gap3 (nthP L k) (nthP (L.eraseIdx k) a) (nthP (L.eraseIdx k) b) := by
  unfold gpT
  rw [catN_mem]
  constructor
  · rintro ⟨k, h1, h2⟩
    unfold gpQ at h2
    rw [catN_mem] at h2
    obtain ⟨a, h3, h4⟩ := h2
    unfold gpI at h4
    rw [catN_mem] at h4
    obtain ⟨m, h5, h6⟩ := h4
    unfold gp1 at h6
    split at h6
    · rename_i h7
      rw [List.mem_singleton] at h6
      exact ⟨k, a, a + 1 + m, h1, by omega, by omega, h7, h6⟩
    · cases h6
  · rintro ⟨k, a, b, h1, h2, h3, h4, rfl⟩
    refine ⟨k, h1, ?_⟩
    unfold gpQ
    rw [catN_mem]
    refine ⟨a, by omega, ?_⟩
    unfold gpI
    rw [catN_mem]
    refine ⟨b - (a + 1), by omega, ?_⟩
    rw [show a + 1 + (b - (a + 1)) = b by omega, gp1, if_pos h4]
    exact List.mem_singleton.2 rfl

theorem era_nth {L : List (Int × Int)} {k a : Nat} (hk : k < L.length) (ha : a < L.length - 1) : nthP (L.eraseIdx k) a = nthP L (if a < k then a else a + 1) := by
  unfold nthP
  rw [nthA_of (by rw [List.length_eraseIdx, if_pos hk]; exact ha), nthA_of (by split <;> omega), List.getElem_eraseIdx]
  split
  · simp [*]
  · simp [*]

theorem gap3_fd {p q r : Int × Int} (hp : P12 p) (hq : P12 q) (hr : P12 r) (h : q.1 ≠ r.1) : ∃ D, D ≤ 24 ∧ FD (gap3 p q r) D 2304 := by
  obtain ⟨D, d, f, hl⟩ := th_fd hq hr h
  obtain ⟨a1, a2⟩ := hp
  exact ⟨D, d, ((hl.over (x := p.1) (y := p.2) (by omega) (by omega)).mono (by omega)).abs⟩

theorem ptP12 {xs ys : List Int} (hp : Pts xs ys) {i : Nat} (hi : i < xs.length) : P12 (nthP (ptL xs ys) i) := by rw [ptL_nth hi]; exact pts12 hp hi

theorem eraP12 {xs ys : List Int} (hp : Pts xs ys) {k a : Nat} (hk : k < xs.length) (ha : a < xs.length - 1) : P12 (nthP ((ptL xs ys).eraseIdx k) a) := by
  rw [era_nth (by rw [ptL_len]; exact hk) (by rw [ptL_len]; exact ha)]
  exact ptP12 hp (by split <;> omega)

theorem gpT_fd {xs ys : List Int} (hp : Pts xs ys) {v : Rat} {n : Nat} (hn : n ≤ xs.length) (h : v ∈ gpT (ptL xs ys) n) : ∃ D, D ≤ 24 ∧ FD v D 2304 := by
  obtain ⟨k, a, b, h1, h2, h3, h4, rfl⟩ := gpT_mem.1 h
  rw [ptL_len] at h3
  exact gap3_fd (ptP12 hp (by omega)) (eraP12 hp (by omega) (by omega)) (eraP12 hp (by omega) h3) h4.1

theorem upR_le {b x W : Rat} : upR b x ≤ W ↔ b ≤ W ∧ x ≤ W := by
  unfold upR
  split
  · rename_i h
    exact ⟨fun h2 => ⟨Rat.le_trans (Rat.le_of_lt h) h2, h2⟩, fun h2 => h2.2⟩
  · rename_i h
    exact ⟨fun h2 => ⟨h2, Rat.le_trans (Rat.not_lt.1 h) h2⟩, fun h2 => h2.1⟩

theorem tbK_le {xs ys : List Int} {i j : Nat} {b W : Rat} : ∀ {k : Nat}, tbK xs ys i j b k ≤ W ↔ b ≤ W ∧ ∀ l, l < k → thC xs i l j → thR xs ys i l j ≤ W
  | 0 => ⟨fun h => ⟨h, fun l hl => by omega⟩, fun h => h.1⟩
  | k + 1 => by
    have ih := tbK_le (xs := xs) (ys := ys) (i := i) (j := j) (b := b) (W := W) (k := k)
    rw [tbK]
    split
    · rename_i hc
      rw [upR_le, ih]
      constructor
      · rintro ⟨⟨h1, h2⟩, h3⟩
        refine ⟨h1, fun l hl hcl => ?_⟩
        rcases Nat.lt_or_ge l k with h4 | h4
        · exact h2 l h4 hcl
        · rw [show l = k by omega]; exact h3
      · rintro ⟨h1, h2⟩
        exact ⟨⟨h1, fun l hl => h2 l (by omega)⟩, h2 k (by omega) hc⟩
    · rename_i hc
      rw [ih]
      constructor
      · rintro ⟨h1, h2⟩
        refine ⟨h1, fun l hl hcl => ?_⟩
        rcases Nat.lt_or_ge l k with h4 | h4
        · exact h2 l h4 hcl
        · exact absurd (by rwa [show l = k by omega] at hcl) hc
      · rintro ⟨h1, h2⟩
        exact ⟨h1, fun l hl => h2 l (by omega)⟩

theorem tbE_le {xs ys : List Int} {i j : Nat} {b W : Rat} : tbE xs ys i j b ≤ W ↔ b ≤ W ∧ (nth xs i = nth xs j → eqD xs ys i j ≤ W) := by
  unfold tbE
  split
  · rename_i h
    rw [upR_le]
    exact ⟨fun h2 => ⟨h2.1, fun _ => h2.2⟩, fun h2 => ⟨h2.1, h2.2 h⟩⟩
  · rename_i h
    exact ⟨fun h2 => ⟨h2, fun h3 => absurd h3 h⟩, fun h2 => h2.1⟩

theorem tbJ_le {xs ys : List Int} {i : Nat} {b W : Rat} : ∀ {j : Nat}, tbJ xs ys i b j ≤ W ↔ b ≤ W ∧ ∀ l, l < j → (nth xs i = nth xs l → eqD xs ys i l ≤ W) ∧ ∀ k, k < xs.length → thC xs i k l → thR xs ys i k l ≤ W
  | 0 => ⟨fun h => ⟨h, fun l hl => by omega⟩, fun h => h.1⟩
  | j + 1 => by
    have ih := tbJ_le (xs := xs) (ys := ys) (i := i) (b := b) (W := W) (j := j)
    rw [tbJ, tbK_le, tbE_le, ih]
    constructor
    · rintro ⟨⟨⟨h1, h2⟩, h3⟩, h4⟩
      refine ⟨h1, fun l hl => ?_⟩
      rcases Nat.lt_or_ge l j with h5 | h5
      · exact h2 l h5
      · rw [show l = j by omega]; exact ⟨h3, h4⟩
    · rintro ⟨h1, h2⟩
      exact ⟨⟨⟨h1, fun l hl => h2 l (by omega)⟩, (h2 j (by omega)).1⟩, (h2 j (by omega)).2⟩

theorem tbI_le {xs ys : List Int} {W : Rat} : ∀ {i : Nat}, tbI xs ys i ≤ W ↔ 0 ≤ W ∧ ∀ l, l < i → ∀ j, j < xs.length → (nth xs l = nth xs j → eqD xs ys l j ≤ W) ∧ ∀ k, k < xs.length → thC xs l k j → thR xs ys l k j ≤ W
  | 0 => ⟨fun h => ⟨h, fun l hl => by omega⟩, fun h => h.1⟩
  | i + 1 => by
    have ih := tbI_le (xs := xs) (ys := ys) (W := W) (i := i)
    rw [tbI, tbJ_le, ih]
    constructor
    · rintro ⟨⟨h1, h2⟩, h3⟩
      refine ⟨h1, fun l hl => ?_⟩
      rcases Nat.lt_or_ge l i with h5 | h5
      · exact h2 l h5
      · rw [show l = i by omega]; exact h3
    · rintro ⟨h1, h2⟩
      exact ⟨⟨h1, fun l hl => h2 l (by omega)⟩, h2 i (by omega)⟩

/-- the line through two points is the line through them the other way round -/
theorem slR_swap (xs ys : List Int) (i k : Nat) : slR xs ys i k = slR xs ys k i := by
  unfold slR
  by_cases h : nth xs i = nth xs k
  · rw [h, show ∀ a : Int, a - a = 0 from fun a => by omega, show ((0 : Int) : Rat) = 0 from rfl]
    grind
  · rw [show nth ys i - nth ys k = -(nth ys k - nth ys i) by omega, show nth xs i - nth xs k = -(nth xs k - nth xs i) by omega, Rat.intCast_neg, Rat.intCast_neg, div_neg' (rat_ne (by omega))]
    grind

theorem slR_mul {xs ys : List Int} {i k : Nat} (h : nth xs i ≠ nth xs k) : slR xs ys i k * (((nth xs i : Int) : Rat) - ((nth xs k : Int) : Rat)) = ((nth ys i : Int) : Rat) - ((nth ys k : Int) : Rat) := by
  unfold slR
  rw [← Rat.intCast_sub, Rat.div_mul_cancel (rat_ne (by omega)), Rat.intCast_sub]

theorem thD_swap {xs ys : List Int} {i k j : Nat} (h : nth xs i ≠ nth xs j) : thD xs ys i k j = thD xs ys j k i := by
  have e := slR_mul (ys := ys) h
  have s := slR_swap xs ys i j
  unfold thD bRes
  rw [← s]
  generalize slR xs ys i j = t at *
  grind

theorem thD_end {xs ys : List Int} {i j : Nat} (h : nth xs i ≠ nth xs j) : thD xs ys i i j = 0 ∧ thD xs ys i j j = 0 := by
  have e := slR_mul (ys := ys) h
  have s := slR_swap xs ys i j
  unfold thD bRes
  rw [← s]
  generalize slR xs ys i j = t at *
  rw [show ((0 : Int) : Rat) = 0 from rfl]
  constructor <;> grind

theorem gap3_thD (xs ys : List Int) (i k j : Nat) : gap3 (nth xs k, nth ys k) (nth xs i, nth ys i) (nth xs j, nth ys j) = absR (thD xs ys i k j) := rfl

theorem eqD_thD {xs ys : List Int} {i j c : Nat} (h : nth xs i = nth xs j) (hc : nth xs i ≠ nth xs c) : eqD xs ys i j = absR (thD xs ys i j c) * (((1 : Int) : Rat) / ((2 : Int) : Rat)) := by
  have e : thD xs ys i j c = ((nth ys j - nth ys i : Int) : Rat) := by
    unfold thD bRes
    rw [← h, Rat.intCast_sub]
    generalize slR xs ys c i = t at *
    rw [show ((0 : Int) : Rat) = 0 from rfl]
    grind
  rw [e]
  unfold eqD absR
  have hlt : ((nth ys j - nth ys i : Int) : Rat) < 0 ↔ nth ys j - nth ys i < 0 := by
    rw [Rat.lt_iff, Rat.num_intCast, Rat.den_intCast]
    simp
  split
  · rename_i h1
    have h2 := hlt.1 h1
    rw [show max (nth ys i - nth ys j) (nth ys j - nth ys i) = -(nth ys j - nth ys i) by omega, Rat.intCast_neg, show ((1 : Int) : Rat) = 1 from rfl]
    grind
  · rename_i h1
    have h2 : ¬ nth ys j - nth ys i < 0 := fun h => h1 (hlt.2 h)
    rw [show max (nth ys i - nth ys j) (nth ys j - nth ys i) = nth ys j - nth ys i by omega, show ((1 : Int) : Rat) = 1 from rfl]
    grind

/-- the program's gaps -/
def gaF (xs ys : List Int) (k : Nat) : Rat := if k = 0 then ((0 : Int) : Rat) else nthR (gpT (ptL xs ys) xs.length) (k - 1)

def gaM (xs ys : List Int) : Rat := hiR (gaF xs ys) (gpT (ptL xs ys) xs.length).length

theorem gaM_ge {xs ys : List Int} {v : Rat} (h : v ∈ gpT (ptL xs ys) xs.length) : v ≤ gaM xs ys := by
  obtain ⟨i, hi, e⟩ := List.mem_iff_getElem.1 h
  have := (hiR_is (gaF xs ys) (gpT (ptL xs ys) xs.length).length).1 (i + 1) (by omega)
  rw [gaF, if_neg (by omega), Nat.add_sub_cancel, nthR_of hi, e] at this
  exact this

theorem gaM_pos (xs ys : List Int) : 0 ≤ gaM xs ys := (hiR_is (gaF xs ys) (gpT (ptL xs ys) xs.length).length).1 0 (Nat.zero_le _)

theorem gaM_is (xs ys : List Int) : gaM xs ys = 0 ∨ gaM xs ys ∈ gpT (ptL xs ys) xs.length := by
  obtain ⟨_, j, h1, h2⟩ := hiR_is (gaF xs ys) (gpT (ptL xs ys) xs.length).length
  unfold gaM
  rw [h2, gaF]
  split
  · exact .inl rfl
  · exact .inr (nthR_mem (by omega))

theorem gp_in {xs ys : List Int} {i k j : Nat} (hi : i < xs.length) (hk : k < xs.length) (hj : j < xs.length) (h1 : i ≠ k) (h2 : j ≠ k) (hx : nth xs i ≠ nth xs j) (hb : min (nth xs i) (nth xs j) ≤ nth xs k ∧ nth xs k ≤ max (nth xs i) (nth xs j)) : absR (thD xs ys i k j) ∈ gpT (ptL xs ys) xs.length := by
  have hL := ptL_len xs ys
  have key : ∀ i j : Nat, i < j → i < xs.length → j < xs.length → i ≠ k → j ≠ k → nth xs i ≠ nth xs j → (min (nth xs i) (nth xs j) ≤ nth xs k ∧ nth xs k ≤ max (nth xs i) (nth xs j)) → absR (thD xs ys i k j) ∈ gpT (ptL xs ys) xs.length := by
    intro i j hij hi hj h1 h2 hx hb
    have e : ∀ t, t < xs.length → t ≠ k → nthP ((ptL xs ys).eraseIdx k) (if t < k then t else t - 1) = (nth xs t, nth ys t) := by
      intro t ht htk
      rw [era_nth (by rw [hL]; exact hk) (by rw [hL]; split <;> omega)]
      rw [← ptL_nth ht]
      rcases Nat.lt_or_ge t k with h9 | h9
      · rw [if_pos h9, if_pos h9]
      · rw [if_neg (show ¬ t < k by omega), if_neg (by omega), show t - 1 + 1 = t by omega]
    refine gpT_mem.2 ⟨k, if i < k then i else i - 1, if j < k then j else j - 1, hk, ?_, ?_, ?_, ?_⟩
    · split <;> split <;> omega
    · rw [hL]; split <;> omega
    · rw [e i hi h1, e j hj h2, ptL_nth hk]; exact ⟨hx, hb⟩
    · rw [e i hi h1, e j hj h2, ptL_nth hk, gap3_thD]
  rcases Nat.lt_or_gt_of_ne (fun e => hx (by rw [e]) : i ≠ j) with h | h
  · exact key i j h hi hj h1 h2 hx hb
  · rw [thD_swap hx]
    exact key j i h hj hi h2 h1 hx.symm (by omega)

theorem ga_eq {xs ys : List Int} (hc : Cloud xs ys) : gaM xs ys * (((1 : Int) : Rat) / ((2 : Int) : Rat)) = tbI xs ys xs.length := by
  have hh := half_pos
  have hp := hc.1
  refine Rat.le_antisymm ?_ ?_
  · obtain ⟨t0, t1⟩ := tbI_le.1 (Rat.le_refl (a := tbI xs ys xs.length))
    rcases gaM_is xs ys with h | h
    · rw [h, Rat.zero_mul]; exact t0
    · obtain ⟨k, a, b, h1, h2, h3, ⟨h4, h5⟩, h6⟩ := gpT_mem.1 h
      have hL := ptL_len xs ys
      rw [hL] at h3
      rw [era_nth (by rw [hL]; exact h1) (by rw [hL]; omega), era_nth (by rw [hL]; exact h1) (by rw [hL]; exact h3)] at h4 h5 h6
      generalize hA : (if a < k then a else a + 1) = A at *
      generalize hB : (if b < k then b else b + 1) = B at *
      have lA : A < xs.length := by rw [← hA]; split <;> omega
      have lB : B < xs.length := by rw [← hB]; split <;> omega
      rw [ptL_nth lA, ptL_nth lB] at h4 h5 h6
      rw [ptL_nth h1] at h5 h6
      unfold btw at h5
      simp only at h4 h5
      rw [gap3_thD] at h6
      rw [h6]
      rcases Int.lt_or_gt_of_ne h4 with h7 | h7
      · exact (t1 A lA B lB).2 k h1 ⟨⟨h7, by omega⟩, by omega⟩
      · rw [thD_swap h4]
        exact (t1 B lB A lA).2 k h1 ⟨⟨h7, by omega⟩, by omega⟩
  · have g0 := gaM_pos xs ys
    have up : ∀ {i k j : Nat}, i < xs.length → k < xs.length → j < xs.length → nth xs i ≠ nth xs j → (min (nth xs i) (nth xs j) ≤ nth xs k ∧ nth xs k ≤ max (nth xs i) (nth xs j)) → absR (thD xs ys i k j) * (((1 : Int) : Rat) / ((2 : Int) : Rat)) ≤ gaM xs ys * (((1 : Int) : Rat) / ((2 : Int) : Rat)) := by
      intro i k j hi hk hj hx hb
      refine Rat.mul_le_mul_of_nonneg_right ?_ (Rat.le_of_lt hh)
      by_cases e1 : i = k
      · subst e1; rw [(thD_end hx).1]; exact g0
      by_cases e2 : j = k
      · subst e2; rw [(thD_end hx).2]; exact g0
      exact gaM_ge (gp_in hi hk hj e1 e2 hx hb)
    refine tbI_le.2 ⟨Rat.mul_nonneg g0 (Rat.le_of_lt hh), fun i hi j hj => ⟨fun he => ?_, fun k hk hcl => ?_⟩⟩
    · obtain ⟨c, hcl, hcx⟩ : ∃ c, c < xs.length ∧ nth xs i ≠ nth xs c := by
        obtain ⟨_, c, c1, c2, c3⟩ := hc
        by_cases e : nth xs i = nth xs c
        · exact ⟨0, by omega, fun e2 => c3 (by rw [← e, e2])⟩
        · exact ⟨c, c2, e⟩
      rw [eqD_thD he hcx]
      exact up hi hj hcl hcx (by omega)
    · exact up hi hk hj (by have := hcl.1.1; omega) (by have := hcl.1; have := hcl.2; omega)

abbrev tsSig (i4 i7 i9 n : Nat) (w : AV) (L : List (Int × Int)) (k a m : Nat) (u : AV) : Sig := [bx1 i7 u, rwF u (gpT L k ++ (gpQ (L.eraseIdx k) (nthP L k) (n - 1) a ++ gpI (L.eraseIdx k) (nthP L k) a m)).length (gpT L k ++ (gpQ (L.eraseIdx k) (nthP L k) (n - 1) a ++ gpI (L.eraseIdx k) (nthP L k) a m)), ⟨.cell, .ptr i9 0, 2, 1, [.int .i64 (nthP L k).1, .int .i64 (nthP L k).2]⟩, cel0 i4, roP w n L]

theorem gaF_fit {xs ys : List Int} (hp : Pts xs ys) : ∀ i j, i ≤ (gpT (ptL xs ys) xs.length).length → j ≤ (gpT (ptL xs ys) xs.length).length → FitA (gaF xs ys i) (gaF xs ys j) := by
  have key : ∀ i, i ≤ (gpT (ptL xs ys) xs.length).length → ∃ D, D ≤ 24 ∧ FD (gaF xs ys i) D 2304 := fun i hi => by
    unfold gaF
    split
    · exact ⟨1, by omega, FD.int (by omega)⟩
    · exact gpT_fd hp (Nat.le_refl _) (nthR_mem (by omega))
  intro i j hi hj
  obtain ⟨D, d, f⟩ := key i hi
  obtain ⟨E, e, g⟩ := key j hj
  exact fit_48 f g (by omega) (by omega)

theorem implStripByThrees_ok {H : Heap} {a b : AV} {xs ys : List Int} (ha : Ints H a xs) (hb : Ints H b ys) (hl : xs.length ≤ 1000000000) (hl' : ys.length ≤ 1000000000) :
    ACalls Try.prog fn_impl_StripByThrees [a, b] H fun r H' => r = tbX xs ys ∧ H' = H := by
  refine ACalls.val ?_ (by unfold tbX; split <;> rfl)
  refine code_impl_StripByThrees.go [.roI a xs.length xs, .roI b ys.length ys] ⟨⟨rfl, ha⟩, ⟨rfl, hb⟩, trivial⟩ (by simp) ?_
  unfold mc_impl_StripByThrees
  (repeat (first | refine gst (hk := ?_) | (with_reducible refine gc_drq ?_; intro _) | (with_reducible first | (refine gc_drw (h := ?_); intro _) | (refine gc_drw2 (h := ?_); intro _)) | (show GO _ _ _ _ _ (⟨some _, none, .call _ _⟩ :: _) _; first | (refine go_callp rfl code_impl_ValidCloud.callable (fun H hH => implValidCloud_ok (hH.ints (by exact Has.auto)) (hH.ints (by exact Has.auto)) (by omega) (by omega)) ?_)) | (show GO _ _ _ _ _ (⟨some _, none, _⟩ :: _) _; first | refine go_op (hk := ?_) | (refine go_nw (hk := ?_); intro u; try simp only [llc, lln, lna, lza]) | (refine go_np (hk := ?_); intro id)) | (show GQ _ _ _ _ _ _ _ (⟨some _, none, _⟩ :: _) _; first | refine gq_op (hk := ?_) | (refine gq_nw (hk := ?_); intro u; try simp only [llc, lln, lna, lza])) | (show GD _ _ _ _ _ _ _ (⟨some _, none, _⟩ :: _) _; first | refine gd_op (hk := ?_) | (refine gd_nw (hk := ?_); intro u; try simp only [llc, lln, lna, lza])) | (show GR _ _ _ _ _ _ (⟨some _, none, _⟩ :: _) _; refine gr_op (hk := ?_)) | (show GD2 _ _ _ _ _ _ _ _ _ _ _ _ _ _; first | refine gd2_nil rfl ?_ | refine gd2_op (hk := ?_) | (refine gd2_nw (hk := ?_); intro u; try simp only [llc, lln, lna, lza]) | refine gd2_l (hk := ?_) | refine gd2_lp (hk := ?_) | (refine gd2_newp (hk := ?_); intro id) | refine gd2_st (hk := ?_) | (refine gd2_bsl rfl rfl ?_; intro u; try simp only [llc, lln, lna, lza]) | (refine gd2_a (hk := ?_); intro u; try simp only [llc, lln, lna, lza])) | (show GO _ _ _ _ _ (⟨none, none, _⟩ :: _) _; refine go_st (hk := ?_)) | (show GD _ _ _ _ _ _ _ (⟨none, none, _⟩ :: _) _; refine gd_st (hk := ?_)) | (show GR _ _ _ _ _ _ (⟨none, none, _⟩ :: _) _; refine gr_st (hk := ?_)) | (show GO _ _ _ _ _ (⟨_, some _, _⟩ :: _) _; first | refine go_in (hk := ?_) | refine go_out (hk := ?_) | refine go_void (hk := ?_)) | (show GQ _ _ _ _ _ _ _ (⟨_, some _, _⟩ :: _) _; first | refine gq_in (hk := ?_) | refine gq_out (hk := ?_) | refine gq_void (hk := ?_)) | (show GK _ _ _ _ (blockK _ _ _); refine gk_past rfl ?_) | (show GC _ _ _ _ _ (.cond _ _ _) _; first | refine gc_yes (h1 := ?_) | refine gc_no (h1 := ?_))))
  refine gc_cond rfl (fun h => ?_) (fun h => ?_)
  · (repeat (first | refine gst (hk := ?_) | (with_reducible refine gc_drq ?_; intro _) | (with_reducible first | (refine gc_drw (h := ?_); intro _) | (refine gc_drw2 (h := ?_); intro _)) | (show GO _ _ _ _ _ (⟨some _, none, .call _ _⟩ :: _) _; first | (refine go_callp rfl code_impl_ValidCloud.callable (fun H hH => implValidCloud_ok (hH.ints (by exact Has.auto)) (hH.ints (by exact Has.auto)) (by omega) (by omega)) ?_)) | (show GO _ _ _ _ _ (⟨some _, none, _⟩ :: _) _; first | refine go_op (hk := ?_) | (refine go_nw (hk := ?_); intro u; try simp only [llc, lln, lna, lza]) | (refine go_np (hk := ?_); intro id)) | (show GQ _ _ _ _ _ _ _ (⟨some _, none, _⟩ :: _) _; first | refine gq_op (hk := ?_) | (refine gq_nw (hk := ?_); intro u; try simp only [llc, lln, lna, lza])) | (show GD _ _ _ _ _ _ _ (⟨some _, none, _⟩ :: _) _; first | refine gd_op (hk := ?_) | (refine gd_nw (hk := ?_); intro u; try simp only [llc, lln, lna, lza])) | (show GR _ _ _ _ _ _ (⟨some _, none, _⟩ :: _) _; refine gr_op (hk := ?_)) | (show GD2 _ _ _ _ _ _ _ _ _ _ _ _ _ _; first | refine gd2_nil rfl ?_ | refine gd2_op (hk := ?_) | (refine gd2_nw (hk := ?_); intro u; try simp only [llc, lln, lna, lza]) | refine gd2_l (hk := ?_) | refine gd2_lp (hk := ?_) | (refine gd2_newp (hk := ?_); intro id) | refine gd2_st (hk := ?_) | (refine gd2_bsl rfl rfl ?_; intro u; try simp only [llc, lln, lna, lza]) | (refine gd2_a (hk := ?_); intro u; try simp only [llc, lln, lna, lza])) | (show GO _ _ _ _ _ (⟨none, none, _⟩ :: _) _; refine go_st (hk := ?_)) | (show GD _ _ _ _ _ _ _ (⟨none, none, _⟩ :: _) _; refine gd_st (hk := ?_)) | (show GR _ _ _ _ _ _ (⟨none, none, _⟩ :: _) _; refine gr_st (hk := ?_)) | (show GO _ _ _ _ _ (⟨_, some _, _⟩ :: _) _; first | refine go_in (hk := ?_) | refine go_out (hk := ?_) | refine go_void (hk := ?_)) | (show GQ _ _ _ _ _ _ _ (⟨_, some _, _⟩ :: _) _; first | refine gq_in (hk := ?_) | refine gq_out (hk := ?_) | refine gq_void (hk := ?_)) | (show GK _ _ _ _ (blockK _ _ _); refine gk_past rfl ?_) | (show GC _ _ _ _ _ (.cond _ _ _) _; first | refine gc_yes (h1 := ?_) | refine gc_no (h1 := ?_))))
    exact gk_rets (rvs_c rfl (by exact Sel.auto) rfl rfl (rvs_t rfl rvs_nil)) fun H' hH => ⟨by rw [tbX, if_neg h]; rfl, hH.leE⟩
  have hc : Cloud xs ys := Decidable.not_not.1 h
  have hp := hc.1
  have h7 := hc.1.2.2
  have hlen := hc.1.2.1
  have hn := hc.sq.n
  have hL := ptL_len xs ys
  rw [tbX, if_pos hc, ← ga_eq hc]
  (repeat (first | refine gst (hk := ?_) | (with_reducible refine gc_drq ?_; intro _) | (with_reducible first | (refine gc_drw (h := ?_); intro _) | (refine gc_drw2 (h := ?_); intro _)) | (show GO _ _ _ _ _ (⟨some _, none, .call _ _⟩ :: _) _; first | (refine go_callp rfl code_impl_ValidCloud.callable (fun H hH => implValidCloud_ok (hH.ints (by exact Has.auto)) (hH.ints (by exact Has.auto)) (by omega) (by omega)) ?_)) | (show GO _ _ _ _ _ (⟨some _, none, _⟩ :: _) _; first | refine go_op (hk := ?_) | (refine go_nw (hk := ?_); intro u; try simp only [llc, lln, lna, lza]) | (refine go_np (hk := ?_); intro id)) | (show GQ _ _ _ _ _ _ _ (⟨some _, none, _⟩ :: _) _; first | refine gq_op (hk := ?_) | (refine gq_nw (hk := ?_); intro u; try simp only [llc, lln, lna, lza])) | (show GD _ _ _ _ _ _ _ (⟨some _, none, _⟩ :: _) _; first | refine gd_op (hk := ?_) | (refine gd_nw (hk := ?_); intro u; try simp only [llc, lln, lna, lza])) | (show GR _ _ _ _ _ _ (⟨some _, none, _⟩ :: _) _; refine gr_op (hk := ?_)) | (show GD2 _ _ _ _ _ _ _ _ _ _ _ _ _ _; first | refine gd2_nil rfl ?_ | refine gd2_op (hk := ?_) | (refine gd2_nw (hk := ?_); intro u; try simp only [llc, lln, lna, lza]) | refine gd2_l (hk := ?_) | refine gd2_lp (hk := ?_) | (refine gd2_newp (hk := ?_); intro id) | refine gd2_st (hk := ?_) | (refine gd2_bsl rfl rfl ?_; intro u; try simp only [llc, lln, lna, lza]) | (refine gd2_a (hk := ?_); intro u; try simp only [llc, lln, lna, lza])) | (show GO _ _ _ _ _ (⟨none, none, _⟩ :: _) _; refine go_st (hk := ?_)) | (show GD _ _ _ _ _ _ _ (⟨none, none, _⟩ :: _) _; refine gd_st (hk := ?_)) | (show GR _ _ _ _ _ _ (⟨none, none, _⟩ :: _) _; refine gr_st (hk := ?_)) | (show GO _ _ _ _ _ (⟨_, some _, _⟩ :: _) _; first | refine go_in (hk := ?_) | refine go_out (hk := ?_) | refine go_void (hk := ?_)) | (show GQ _ _ _ _ _ _ _ (⟨_, some _, _⟩ :: _) _; first | refine gq_in (hk := ?_) | refine gq_out (hk := ?_) | refine gq_void (hk := ?_)) | (show GK _ _ _ _ (blockK _ _ _); refine gk_past rfl ?_) | (show GC _ _ _ _ _ (.cond _ _ _) _; first | refine gc_yes (h1 := ?_) | refine gc_no (h1 := ?_))))
  revert id; intro i4
  refine go_calln rfl code_impl_pointsOf.callable (fun H hH => pointsOf_ok (hH.ints (by exact Has.auto)) (hH.ints (by exact Has.auto)) hlen (by omega)) ?_
  intro w
  refine go_freeze (v := w) (by exact Sel.auto) ?_
  refine go_nilK 2 ?_
  (repeat (first | refine gst (hk := ?_) | (with_reducible refine gc_drq ?_; intro _) | (with_reducible first | (refine gc_drw (h := ?_); intro _) | (refine gc_drw2 (h := ?_); intro _)) | (show GO _ _ _ _ _ (⟨some _, none, .call _ _⟩ :: _) _; first | (refine go_callp rfl code_impl_ValidCloud.callable (fun H hH => implValidCloud_ok (hH.ints (by exact Has.auto)) (hH.ints (by exact Has.auto)) (by omega) (by omega)) ?_)) | (show GO _ _ _ _ _ (⟨some _, none, _⟩ :: _) _; first | refine go_op (hk := ?_) | (refine go_nw (hk := ?_); intro u; try simp only [llc, lln, lna, lza]) | (refine go_np (hk := ?_); intro id)) | (show GQ _ _ _ _ _ _ _ (⟨some _, none, _⟩ :: _) _; first | refine gq_op (hk := ?_) | (refine gq_nw (hk := ?_); intro u; try simp only [llc, lln, lna, lza])) | (show GD _ _ _ _ _ _ _ (⟨some _, none, _⟩ :: _) _; first | refine gd_op (hk := ?_) | (refine gd_nw (hk := ?_); intro u; try simp only [llc, lln, lna, lza])) | (show GR _ _ _ _ _ _ (⟨some _, none, _⟩ :: _) _; refine gr_op (hk := ?_)) | (show GD2 _ _ _ _ _ _ _ _ _ _ _ _ _ _; first | refine gd2_nil rfl ?_ | refine gd2_op (hk := ?_) | (refine gd2_nw (hk := ?_); intro u; try simp only [llc, lln, lna, lza]) | refine gd2_l (hk := ?_) | refine gd2_lp (hk := ?_) | (refine gd2_newp (hk := ?_); intro id) | refine gd2_st (hk := ?_) | (refine gd2_bsl rfl rfl ?_; intro u; try simp only [llc, lln, lna, lza]) | (refine gd2_a (hk := ?_); intro u; try simp only [llc, lln, lna, lza])) | (show GO _ _ _ _ _ (⟨none, none, _⟩ :: _) _; refine go_st (hk := ?_)) | (show GD _ _ _ _ _ _ _ (⟨none, none, _⟩ :: _) _; refine gd_st (hk := ?_)) | (show GR _ _ _ _ _ _ (⟨none, none, _⟩ :: _) _; refine gr_st (hk := ?_)) | (show GO _ _ _ _ _ (⟨_, some _, _⟩ :: _) _; first | refine go_in (hk := ?_) | refine go_out (hk := ?_) | refine go_void (hk := ?_)) | (show GQ _ _ _ _ _ _ _ (⟨_, some _, _⟩ :: _) _; first | refine gq_in (hk := ?_) | refine gq_out (hk := ?_) | refine gq_void (hk := ?_)) | (show GK _ _ _ _ (blockK _ _ _); refine gk_past rfl ?_) | (show GC _ _ _ _ _ (.cond _ _ _) _; first | refine gc_yes (h1 := ?_) | refine gc_no (h1 := ?_))))
  revert id; intro i7
  have hgm : ∃ D, D ≤ 24 ∧ FD (gaM xs ys) D 2304 := by
    rcases gaM_is xs ys with h | h
    · rw [h]; exact ⟨1, by omega, FD.int (n := 0) (by omega)⟩
    · exact gpT_fd hp (Nat.le_refl _) h
  have hP := fun {k : Nat} (hk : k < xs.length) => ptP12 hp hk
  have hE := fun {k a : Nat} (hk : k < xs.length) (ha : a < xs.length - 1) => eraP12 hp hk ha
  have hga := gaF_fit hp
  have eM : gaM xs ys = hiR (gaF xs ys) (gpT (ptL xs ys) xs.length).length := rfl
  have hga2 : ∀ i, i < (gpT (ptL xs ys) xs.length).length → nthR (gpT (ptL xs ys) xs.length) i = gaF xs ys (i + 1) := fun i _ => by rw [gaF, if_neg (by omega), Nat.add_sub_cancel]
  have hga0 : gaF xs ys 0 = ((0 : Int) : Rat) := rfl
  have hb0 := gpT_len (ptL xs ys)
  generalize hpt : ptL xs ys = L at *
  generalize hnn : xs.length = n at *
  refine gc_upv n (fun i u => [(4, .ptr i4 0), (6, w), (7, .ptr i7 0), (20, w), (21, .int .i64 (n : Int)), (22, .int .i64 (i : Int))]) (fun i u => [bx1 i7 u, rwF u (gpT L i).length (gpT L i), cel0 i4, roP w n L]) .nilSlice (hb := ?_)
  intro k u hk I ν m hkk
  (repeat (first | refine gst (hk := ?_) | (with_reducible refine gc_drq ?_; intro _) | (with_reducible first | (refine gc_drw (h := ?_); intro _) | (refine gc_drw2 (h := ?_); intro _)) | (show GO _ _ _ _ _ (⟨some _, none, .call _ _⟩ :: _) _; first | (refine go_callp rfl code_impl_ValidCloud.callable (fun H hH => implValidCloud_ok (hH.ints (by exact Has.auto)) (hH.ints (by exact Has.auto)) (by omega) (by omega)) ?_)) | (show GO _ _ _ _ _ (⟨some _, none, _⟩ :: _) _; first | refine go_op (hk := ?_) | (refine go_nw (hk := ?_); intro u; try simp only [llc, lln, lna, lza]) | (refine go_np (hk := ?_); intro id)) | (show GQ _ _ _ _ _ _ _ (⟨some _, none, _⟩ :: _) _; first | refine gq_op (hk := ?_) | (refine gq_nw (hk := ?_); intro u; try simp only [llc, lln, lna, lza])) | (show GD _ _ _ _ _ _ _ (⟨some _, none, _⟩ :: _) _; first | refine gd_op (hk := ?_) | (refine gd_nw (hk := ?_); intro u; try simp only [llc, lln, lna, lza])) | (show GR _ _ _ _ _ _ (⟨some _, none, _⟩ :: _) _; refine gr_op (hk := ?_)) | (show GD2 _ _ _ _ _ _ _ _ _ _ _ _ _ _; first | refine gd2_nil rfl ?_ | refine gd2_op (hk := ?_) | (refine gd2_nw (hk := ?_); intro u; try simp only [llc, lln, lna, lza]) | refine gd2_l (hk := ?_) | refine gd2_lp (hk := ?_) | (refine gd2_newp (hk := ?_); intro id) | refine gd2_st (hk := ?_) | (refine gd2_bsl rfl rfl ?_; intro u; try simp only [llc, lln, lna, lza]) | (refine gd2_a (hk := ?_); intro u; try simp only [llc, lln, lna, lza])) | (show GO _ _ _ _ _ (⟨none, none, _⟩ :: _) _; refine go_st (hk := ?_)) | (show GD _ _ _ _ _ _ _ (⟨none, none, _⟩ :: _) _; refine gd_st (hk := ?_)) | (show GR _ _ _ _ _ _ (⟨none, none, _⟩ :: _) _; refine gr_st (hk := ?_)) | (show GO _ _ _ _ _ (⟨_, some _, _⟩ :: _) _; first | refine go_in (hk := ?_) | refine go_out (hk := ?_) | refine go_void (hk := ?_)) | (show GQ _ _ _ _ _ _ _ (⟨_, some _, _⟩ :: _) _; first | refine gq_in (hk := ?_) | refine gq_out (hk := ?_) | refine gq_void (hk := ?_)) | (show GK _ _ _ _ (blockK _ _ _); refine gk_past rfl ?_) | (show GC _ _ _ _ _ (.cond _ _ _) _; first | refine gc_yes (h1 := ?_) | refine gc_no (h1 := ?_))))
  refine gc_cond rfl (fun h => ?_) (fun h => ?_)
  · have hkk := hkk (by omega)
    have pk := hP (k := k) (by omega)
    (repeat (first | refine gst (hk := ?_) | (with_reducible refine gc_drq ?_; intro _) | (with_reducible first | (refine gc_drw (h := ?_); intro _) | (refine gc_drw2 (h := ?_); intro _)) | (show GO _ _ _ _ _ (⟨some _, none, .call _ _⟩ :: _) _; first | (refine go_callp rfl code_impl_ValidCloud.callable (fun H hH => implValidCloud_ok (hH.ints (by exact Has.auto)) (hH.ints (by exact Has.auto)) (by omega) (by omega)) ?_)) | (show GO _ _ _ _ _ (⟨some _, none, _⟩ :: _) _; first | refine go_op (hk := ?_) | (refine go_nw (hk := ?_); intro u; try simp only [llc, lln, lna, lza]) | (refine go_np (hk := ?_); intro id)) | (show GQ _ _ _ _ _ _ _ (⟨some _, none, _⟩ :: _) _; first | refine gq_op (hk := ?_) | (refine gq_nw (hk := ?_); intro u; try simp only [llc, lln, lna, lza])) | (show GD _ _ _ _ _ _ _ (⟨some _, none, _⟩ :: _) _; first | refine gd_op (hk := ?_) | (refine gd_nw (hk := ?_); intro u; try simp only [llc, lln, lna, lza])) | (show GR _ _ _ _ _ _ (⟨some _, none, _⟩ :: _) _; refine gr_op (hk := ?_)) | (show GD2 _ _ _ _ _ _ _ _ _ _ _ _ _ _; first | refine gd2_nil rfl ?_ | refine gd2_op (hk := ?_) | (refine gd2_nw (hk := ?_); intro u; try simp only [llc, lln, lna, lza]) | refine gd2_l (hk := ?_) | refine gd2_lp (hk := ?_) | (refine gd2_newp (hk := ?_); intro id) | refine gd2_st (hk := ?_) | (refine gd2_bsl rfl rfl ?_; intro u; try simp only [llc, lln, lna, lza]) | (refine gd2_a (hk := ?_); intro u; try simp only [llc, lln, lna, lza])) | (show GO _ _ _ _ _ (⟨none, none, _⟩ :: _) _; refine go_st (hk := ?_)) | (show GD _ _ _ _ _ _ _ (⟨none, none, _⟩ :: _) _; refine gd_st (hk := ?_)) | (show GR _ _ _ _ _ _ (⟨none, none, _⟩ :: _) _; refine gr_st (hk := ?_)) | (show GO _ _ _ _ _ (⟨_, some _, _⟩ :: _) _; first | refine go_in (hk := ?_) | refine go_out (hk := ?_) | refine go_void (hk := ?_)) | (show GQ _ _ _ _ _ _ _ (⟨_, some _, _⟩ :: _) _; first | refine gq_in (hk := ?_) | refine gq_out (hk := ?_) | refine gq_void (hk := ?_)) | (show GK _ _ _ _ (blockK _ _ _); refine gk_past rfl ?_) | (show GC _ _ _ _ _ (.cond _ _ _) _; first | refine gc_yes (h1 := ?_) | refine gc_no (h1 := ?_))))
    refine go_is rfl (stp_ldK cels_pn (0, 0) (i := k) rfl (by exact Has.auto) hL.symm (by omega)) ?_
    rw [show nthA (0, 0) L k = nthP L k from rfl]
    simp only [pnC]
    (repeat (first | refine gst (hk := ?_) | (with_reducible refine gc_drq ?_; intro _) | (with_reducible first | (refine gc_drw (h := ?_); intro _) | (refine gc_drw2 (h := ?_); intro _)) | (show GO _ _ _ _ _ (⟨some _, none, .call _ _⟩ :: _) _; first | (refine go_callp rfl code_impl_ValidCloud.callable (fun H hH => implValidCloud_ok (hH.ints (by exact Has.auto)) (hH.ints (by exact Has.auto)) (by omega) (by omega)) ?_)) | (show GO _ _ _ _ _ (⟨some _, none, _⟩ :: _) _; first | refine go_op (hk := ?_) | (refine go_nw (hk := ?_); intro u; try simp only [llc, lln, lna, lza]) | (refine go_np (hk := ?_); intro id)) | (show GQ _ _ _ _ _ _ _ (⟨some _, none, _⟩ :: _) _; first | refine gq_op (hk := ?_) | (refine gq_nw (hk := ?_); intro u; try simp only [llc, lln, lna, lza])) | (show GD _ _ _ _ _ _ _ (⟨some _, none, _⟩ :: _) _; first | refine gd_op (hk := ?_) | (refine gd_nw (hk := ?_); intro u; try simp only [llc, lln, lna, lza])) | (show GR _ _ _ _ _ _ (⟨some _, none, _⟩ :: _) _; refine gr_op (hk := ?_)) | (show GD2 _ _ _ _ _ _ _ _ _ _ _ _ _ _; first | refine gd2_nil rfl ?_ | refine gd2_op (hk := ?_) | (refine gd2_nw (hk := ?_); intro u; try simp only [llc, lln, lna, lza]) | refine gd2_l (hk := ?_) | refine gd2_lp (hk := ?_) | (refine gd2_newp (hk := ?_); intro id) | refine gd2_st (hk := ?_) | (refine gd2_bsl rfl rfl ?_; intro u; try simp only [llc, lln, lna, lza]) | (refine gd2_a (hk := ?_); intro u; try simp only [llc, lln, lna, lza])) | (show GO _ _ _ _ _ (⟨none, none, _⟩ :: _) _; refine go_st (hk := ?_)) | (show GD _ _ _ _ _ _ _ (⟨none, none, _⟩ :: _) _; refine gd_st (hk := ?_)) | (show GR _ _ _ _ _ _ (⟨none, none, _⟩ :: _) _; refine gr_st (hk := ?_)) | (show GO _ _ _ _ _ (⟨_, some _, _⟩ :: _) _; first | refine go_in (hk := ?_) | refine go_out (hk := ?_) | refine go_void (hk := ?_)) | (show GQ _ _ _ _ _ _ _ (⟨_, some _, _⟩ :: _) _; first | refine gq_in (hk := ?_) | refine gq_out (hk := ?_) | refine gq_void (hk := ?_)) | (show GK _ _ _ _ (blockK _ _ _); refine gk_past rfl ?_) | (show GC _ _ _ _ _ (.cond _ _ _) _; first | refine gc_yes (h1 := ?_) | refine gc_no (h1 := ?_))))
    revert id; intro i9
    refine go_calln rfl code_impl_without.callable (es := 2) (n := n - 1) (cs := pns (L.eraseIdx k)) (fun H hH => by
      have h := withoutP_ok (L := L) (i := k) (by rw [hL]; exact hH.valsA (v := w) (es := 2) (n := n) (cs := pns L) (by exact Has.auto)) (by omega) (by omega)
      rw [hL] at h
      exact h) ?_
    intro w2
    refine go_freeze (v := w2) (by exact Sel.auto) ?_
    refine go_callg rfl code_impl_sideBySide.callable (fun H hH => sideBySide_ok hH (w := w2) (by exact Has.auto)) ?_
    intro g hg
    (repeat (first | refine gst (hk := ?_) | (with_reducible refine gc_drq ?_; intro _) | (with_reducible first | (refine gc_drw (h := ?_); intro _) | (refine gc_drw2 (h := ?_); intro _)) | (show GO _ _ _ _ _ (⟨some _, none, .call _ _⟩ :: _) _; first | (refine go_callp rfl code_impl_ValidCloud.callable (fun H hH => implValidCloud_ok (hH.ints (by exact Has.auto)) (hH.ints (by exact Has.auto)) (by omega) (by omega)) ?_)) | (show GO _ _ _ _ _ (⟨some _, none, _⟩ :: _) _; first | refine go_op (hk := ?_) | (refine go_nw (hk := ?_); intro u; try simp only [llc, lln, lna, lza]) | (refine go_np (hk := ?_); intro id)) | (show GQ _ _ _ _ _ _ _ (⟨some _, none, _⟩ :: _) _; first | refine gq_op (hk := ?_) | (refine gq_nw (hk := ?_); intro u; try simp only [llc, lln, lna, lza])) | (show GD _ _ _ _ _ _ _ (⟨some _, none, _⟩ :: _) _; first | refine gd_op (hk := ?_) | (refine gd_nw (hk := ?_); intro u; try simp only [llc, lln, lna, lza])) | (show GR _ _ _ _ _ _ (⟨some _, none, _⟩ :: _) _; refine gr_op (hk := ?_)) | (show GD2 _ _ _ _ _ _ _ _ _ _ _ _ _ _; first | refine gd2_nil rfl ?_ | refine gd2_op (hk := ?_) | (refine gd2_nw (hk := ?_); intro u; try simp only [llc, lln, lna, lza]) | refine gd2_l (hk := ?_) | refine gd2_lp (hk := ?_) | (refine gd2_newp (hk := ?_); intro id) | refine gd2_st (hk := ?_) | (refine gd2_bsl rfl rfl ?_; intro u; try simp only [llc, lln, lna, lza]) | (refine gd2_a (hk := ?_); intro u; try simp only [llc, lln, lna, lza])) | (show GO _ _ _ _ _ (⟨none, none, _⟩ :: _) _; refine go_st (hk := ?_)) | (show GD _ _ _ _ _ _ _ (⟨none, none, _⟩ :: _) _; refine gd_st (hk := ?_)) | (show GR _ _ _ _ _ _ (⟨none, none, _⟩ :: _) _; refine gr_st (hk := ?_)) | (show GO _ _ _ _ _ (⟨_, some _, _⟩ :: _) _; first | refine go_in (hk := ?_) | refine go_out (hk := ?_) | refine go_void (hk := ?_)) | (show GQ _ _ _ _ _ _ _ (⟨_, some _, _⟩ :: _) _; first | refine gq_in (hk := ?_) | refine gq_out (hk := ?_) | refine gq_void (hk := ?_)) | (show GK _ _ _ _ (blockK _ _ _); refine gk_past rfl ?_) | (show GC _ _ _ _ _ (.cond _ _ _) _; first | refine gc_yes (h1 := ?_) | refine gc_no (h1 := ?_))))
    have hL2 : (L.eraseIdx k).length = n - 1 := by rw [List.length_eraseIdx, if_pos (by omega), hL]
    refine gc_rfuncE (ι := Nat × Nat) (γ := AV) (f := fn_impl_sideBySide_1) (caps := [.ptr g 0]) (fun t u => bx1 g w2 :: roP w2 (n - 1) (L.eraseIdx k) :: tsSig i4 i7 i9 n w L k t.1 t.2 u) (fun s t vs => ∃ i m, s = (i, m) ∧ t = (i, m + 1) ∧ i + 1 + m < n - 1 ∧ (nthP (L.eraseIdx k) i).1 ≠ (nthP (L.eraseIdx k) (i + 1 + m)).1 ∧ vs = [pnV (nthP (L.eraseIdx k) i), pnV (nthP (L.eraseIdx k) (i + 1 + m))]) (0, 0) (n - 1, 0) u rfl code_impl_sideBySide_1.callable (by simp only [tsSig]; rw [show gpT L k ++ (gpQ (L.eraseIdx k) (nthP L k) (n - 1) 0 ++ gpI (L.eraseIdx k) (nthP L k) 0 0) = gpT L k from List.append_nil _]; exact Sub.auto) ?_ ?_ ?_
    · intro A' yd H hy hS0
      refine sideBySide1_ok (L := L.eraseIdx k) hL2 (by omega) (tsSig i4 i7 i9 n w L k) u (fun i hi => ?_) (fun i m hi he => ?_) (fun i m hi hne F z H' hH' => hy (i, m) (i, m + 1) _ ⟨i, m, rfl, rfl, hi, hne, rfl⟩ F z H' hH') hS0
      · funext u
        unfold tsSig
        rw [show gpQ (L.eraseIdx k) (nthP L k) (n - 1) (i + 1) ++ gpI (L.eraseIdx k) (nthP L k) (i + 1) 0 = gpQ (L.eraseIdx k) (nthP L k) (n - 1) i ++ gpI (L.eraseIdx k) (nthP L k) i (n - 1 - (i + 1)) from List.append_nil _]
      · funext u
        unfold tsSig
        rw [show gpI (L.eraseIdx k) (nthP L k) i (m + 1) = gpI (L.eraseIdx k) (nthP L k) i m from by
          show gpI (L.eraseIdx k) (nthP L k) i m ++ gp1 (nthP L k) (nthP (L.eraseIdx k) i) (nthP (L.eraseIdx k) (i + 1 + m)) = _
          rw [gp1, if_neg (fun h => h.1 he), List.append_nil]]
    · rintro s t vs ⟨i, m, rfl, rfl, hi, hne, rfl⟩
      refine ⟨rfl, fun F u ob1 ob2 Q1 Q2 g1 g2 => ?_⟩
      have c1 := hb0 k
      have c2 := gpQ_len (L.eraseIdx k) (nthP L k) (n - 1) i
      have c3 := gpI_len (L.eraseIdx k) (nthP L k) i m
      have c4 : i * (n - 1) ≤ 6 * 6 := Nat.mul_le_mul (by omega) (by omega)
      have c5 : (L.length - 1) * (L.length - 1) ≤ 6 * 6 := Nat.mul_le_mul (by omega) (by omega)
      have c6 : k * ((L.length - 1) * (L.length - 1)) ≤ 7 * (6 * 6) := Nat.mul_le_mul (by omega) c5
      have q1 := hE (k := k) (a := i) (by omega) (by omega)
      have q2 := hE (k := k) (a := i + 1 + m) (by omega) (by omega)
      obtain ⟨D, d, f, hln⟩ := th_fd q1 q2 hne
      obtain ⟨pk1, pk2⟩ := pk
      have fov := (hln.over (x := (nthP L k).1) (y := (nthP L k).2) (by omega) (by omega)).nd
      have d8 : 24 * D + (24 * 24 + 1152) ≤ 2304 := by omega
      have eI : gpI (L.eraseIdx k) (nthP L k) i (m + 1) = gpI (L.eraseIdx k) (nthP L k) i m ++ gp1 (nthP L k) (nthP (L.eraseIdx k) i) (nthP (L.eraseIdx k) (i + 1 + m)) := rfl
      simp only [tsSig, List.cons_append, List.nil_append] at g2 ⊢
      simp only [eI] at g2
      generalize hbase : gpT L k ++ (gpQ (L.eraseIdx k) (nthP L k) (n - 1) i ++ gpI (L.eraseIdx k) (nthP L k) i m) = B at *
      have hB : B.length ≤ 1000 := by
        rw [← hbase, List.length_append, List.length_append]; omega
      have eB : ∀ M, gpT L k ++ (gpQ (L.eraseIdx k) (nthP L k) (n - 1) i ++ (gpI (L.eraseIdx k) (nthP L k) i m ++ M)) = B ++ M := fun M => by
        rw [← hbase, List.append_assoc, List.append_assoc]
      simp only [eB] at g2
      generalize nthP (L.eraseIdx k) i = q at *
      generalize nthP (L.eraseIdx k) (i + 1 + m) = r at *
      generalize nthP L k = p at *
      (repeat (first | refine gst (hk := ?_) | (with_reducible refine gc_drq ?_; intro _) | (with_reducible first | (refine gc_drw (h := ?_); intro _) | (refine gc_drw2 (h := ?_); intro _)) | (show GO _ _ _ _ _ (⟨some _, none, .call _ _⟩ :: _) _; first | (refine go_callp rfl code_impl_ValidCloud.callable (fun H hH => implValidCloud_ok (hH.ints (by exact Has.auto)) (hH.ints (by exact Has.auto)) (by omega) (by omega)) ?_)) | (show GO _ _ _ _ _ (⟨some _, none, _⟩ :: _) _; first | refine go_op (hk := ?_) | (refine go_nw (hk := ?_); intro u; try simp only [llc, lln, lna, lza]) | (refine go_np (hk := ?_); intro id)) | (show GQ _ _ _ _ _ _ _ (⟨some _, none, _⟩ :: _) _; first | refine gq_op (hk := ?_) | (refine gq_nw (hk := ?_); intro u; try simp only [llc, lln, lna, lza])) | (show GD _ _ _ _ _ _ _ (⟨some _, none, _⟩ :: _) _; first | refine gd_op (hk := ?_) | (refine gd_nw (hk := ?_); intro u; try simp only [llc, lln, lna, lza])) | (show GR _ _ _ _ _ _ (⟨some _, none, _⟩ :: _) _; refine gr_op (hk := ?_)) | (show GD2 _ _ _ _ _ _ _ _ _ _ _ _ _ _; first | refine gd2_nil rfl ?_ | refine gd2_op (hk := ?_) | (refine gd2_nw (hk := ?_); intro u; try simp only [llc, lln, lna, lza]) | refine gd2_l (hk := ?_) | refine gd2_lp (hk := ?_) | (refine gd2_newp (hk := ?_); intro id) | refine gd2_st (hk := ?_) | (refine gd2_bsl rfl rfl ?_; intro u; try simp only [llc, lln, lna, lza]) | (refine gd2_a (hk := ?_); intro u; try simp only [llc, lln, lna, lza])) | (show GO _ _ _ _ _ (⟨none, none, _⟩ :: _) _; refine go_st (hk := ?_)) | (show GD _ _ _ _ _ _ _ (⟨none, none, _⟩ :: _) _; refine gd_st (hk := ?_)) | (show GR _ _ _ _ _ _ (⟨none, none, _⟩ :: _) _; refine gr_st (hk := ?_)) | (show GO _ _ _ _ _ (⟨_, some _, _⟩ :: _) _; first | refine go_in (hk := ?_) | refine go_out (hk := ?_) | refine go_void (hk := ?_)) | (show GQ _ _ _ _ _ _ _ (⟨_, some _, _⟩ :: _) _; first | refine gq_in (hk := ?_) | refine gq_out (hk := ?_) | refine gq_void (hk := ?_)) | (show GK _ _ _ _ (blockK _ _ _); refine gk_past rfl ?_) | (show GC _ _ _ _ _ (.cond _ _ _) _; first | refine gc_yes (h1 := ?_) | refine gc_no (h1 := ?_))))
      rename_i i10
      revert id; intro i11
      refine g1 _ _ ?_
      (repeat (first | refine gst (hk := ?_) | (with_reducible refine gc_drq ?_; intro _) | (with_reducible first | (refine gc_drw (h := ?_); intro _) | (refine gc_drw2 (h := ?_); intro _)) | (show GO _ _ _ _ _ (⟨some _, none, .call _ _⟩ :: _) _; first | (refine go_callp rfl code_impl_ValidCloud.callable (fun H hH => implValidCloud_ok (hH.ints (by exact Has.auto)) (hH.ints (by exact Has.auto)) (by omega) (by omega)) ?_)) | (show GO _ _ _ _ _ (⟨some _, none, _⟩ :: _) _; first | refine go_op (hk := ?_) | (refine go_nw (hk := ?_); intro u; try simp only [llc, lln, lna, lza]) | (refine go_np (hk := ?_); intro id)) | (show GQ _ _ _ _ _ _ _ (⟨some _, none, _⟩ :: _) _; first | refine gq_op (hk := ?_) | (refine gq_nw (hk := ?_); intro u; try simp only [llc, lln, lna, lza])) | (show GD _ _ _ _ _ _ _ (⟨some _, none, _⟩ :: _) _; first | refine gd_op (hk := ?_) | (refine gd_nw (hk := ?_); intro u; try simp only [llc, lln, lna, lza])) | (show GR _ _ _ _ _ _ (⟨some _, none, _⟩ :: _) _; refine gr_op (hk := ?_)) | (show GD2 _ _ _ _ _ _ _ _ _ _ _ _ _ _; first | refine gd2_nil rfl ?_ | refine gd2_op (hk := ?_) | (refine gd2_nw (hk := ?_); intro u; try simp only [llc, lln, lna, lza]) | refine gd2_l (hk := ?_) | refine gd2_lp (hk := ?_) | (refine gd2_newp (hk := ?_); intro id) | refine gd2_st (hk := ?_) | (refine gd2_bsl rfl rfl ?_; intro u; try simp only [llc, lln, lna, lza]) | (refine gd2_a (hk := ?_); intro u; try simp only [llc, lln, lna, lza])) | (show GO _ _ _ _ _ (⟨none, none, _⟩ :: _) _; refine go_st (hk := ?_)) | (show GD _ _ _ _ _ _ _ (⟨none, none, _⟩ :: _) _; refine gd_st (hk := ?_)) | (show GR _ _ _ _ _ _ (⟨none, none, _⟩ :: _) _; refine gr_st (hk := ?_)) | (show GO _ _ _ _ _ (⟨_, some _, _⟩ :: _) _; first | refine go_in (hk := ?_) | refine go_out (hk := ?_) | refine go_void (hk := ?_)) | (show GQ _ _ _ _ _ _ _ (⟨_, some _, _⟩ :: _) _; first | refine gq_in (hk := ?_) | refine gq_out (hk := ?_) | refine gq_void (hk := ?_)) | (show GK _ _ _ _ (blockK _ _ _); refine gk_past rfl ?_) | (show GC _ _ _ _ _ (.cond _ _ _) _; first | refine gc_yes (h1 := ?_) | refine gc_no (h1 := ?_))))
      refine go_split 41 rfl (fun h5 => ?_) (fun h5 => ?_)
      · (repeat (first | refine gst (hk := ?_) | (with_reducible refine gc_drq ?_; intro _) | (with_reducible first | (refine gc_drw (h := ?_); intro _) | (refine gc_drw2 (h := ?_); intro _)) | (show GO _ _ _ _ _ (⟨some _, none, .call _ _⟩ :: _) _; first | (refine go_callp rfl code_impl_ValidCloud.callable (fun H hH => implValidCloud_ok (hH.ints (by exact Has.auto)) (hH.ints (by exact Has.auto)) (by omega) (by omega)) ?_)) | (show GO _ _ _ _ _ (⟨some _, none, _⟩ :: _) _; first | refine go_op (hk := ?_) | (refine go_nw (hk := ?_); intro u; try simp only [llc, lln, lna, lza]) | (refine go_np (hk := ?_); intro id)) | (show GQ _ _ _ _ _ _ _ (⟨some _, none, _⟩ :: _) _; first | refine gq_op (hk := ?_) | (refine gq_nw (hk := ?_); intro u; try simp only [llc, lln, lna, lza])) | (show GD _ _ _ _ _ _ _ (⟨some _, none, _⟩ :: _) _; first | refine gd_op (hk := ?_) | (refine gd_nw (hk := ?_); intro u; try simp only [llc, lln, lna, lza])) | (show GR _ _ _ _ _ _ (⟨some _, none, _⟩ :: _) _; refine gr_op (hk := ?_)) | (show GD2 _ _ _ _ _ _ _ _ _ _ _ _ _ _; first | refine gd2_nil rfl ?_ | refine gd2_op (hk := ?_) | (refine gd2_nw (hk := ?_); intro u; try simp only [llc, lln, lna, lza]) | refine gd2_l (hk := ?_) | refine gd2_lp (hk := ?_) | (refine gd2_newp (hk := ?_); intro id) | refine gd2_st (hk := ?_) | (refine gd2_bsl rfl rfl ?_; intro u; try simp only [llc, lln, lna, lza]) | (refine gd2_a (hk := ?_); intro u; try simp only [llc, lln, lna, lza])) | (show GO _ _ _ _ _ (⟨none, none, _⟩ :: _) _; refine go_st (hk := ?_)) | (show GD _ _ _ _ _ _ _ (⟨none, none, _⟩ :: _) _; refine gd_st (hk := ?_)) | (show GR _ _ _ _ _ _ (⟨none, none, _⟩ :: _) _; refine gr_st (hk := ?_)) | (show GO _ _ _ _ _ (⟨_, some _, _⟩ :: _) _; first | refine go_in (hk := ?_) | refine go_out (hk := ?_) | refine go_void (hk := ?_)) | (show GQ _ _ _ _ _ _ _ (⟨_, some _, _⟩ :: _) _; first | refine gq_in (hk := ?_) | refine gq_out (hk := ?_) | refine gq_void (hk := ?_)) | (show GK _ _ _ _ (blockK _ _ _); refine gk_past rfl ?_) | (show GC _ _ _ _ _ (.cond _ _ _) _; first | refine gc_yes (h1 := ?_) | refine gc_no (h1 := ?_))))
        refine gc_cond rfl (fun h6 => ?_) (fun h6 => ?_)
        · have eg : gp1 p q r = [gap3 p q r] := if_pos ⟨hne, h5, h6⟩
          rw [eg] at g2
          (repeat (first | refine gst (hk := ?_) | (with_reducible refine gc_drq ?_; intro _) | (with_reducible first | (refine gc_drw (h := ?_); intro _) | (refine gc_drw2 (h := ?_); intro _)) | (show GO _ _ _ _ _ (⟨some _, none, .call _ _⟩ :: _) _; first | (refine go_callp rfl code_impl_ValidCloud.callable (fun H hH => implValidCloud_ok (hH.ints (by exact Has.auto)) (hH.ints (by exact Has.auto)) (by omega) (by omega)) ?_)) | (show GO _ _ _ _ _ (⟨some _, none, _⟩ :: _) _; first | refine go_op (hk := ?_) | (refine go_nw (hk := ?_); intro u; try simp only [llc, lln, lna, lza]) | (refine go_np (hk := ?_); intro id)) | (show GQ _ _ _ _ _ _ _ (⟨some _, none, _⟩ :: _) _; first | refine gq_op (hk := ?_) | (refine gq_nw (hk := ?_); intro u; try simp only [llc, lln, lna, lza])) | (show GD _ _ _ _ _ _ _ (⟨some _, none, _⟩ :: _) _; first | refine gd_op (hk := ?_) | (refine gd_nw (hk := ?_); intro u; try simp only [llc, lln, lna, lza])) | (show GR _ _ _ _ _ _ (⟨some _, none, _⟩ :: _) _; refine gr_op (hk := ?_)) | (show GD2 _ _ _ _ _ _ _ _ _ _ _ _ _ _; first | refine gd2_nil rfl ?_ | refine gd2_op (hk := ?_) | (refine gd2_nw (hk := ?_); intro u; try simp only [llc, lln, lna, lza]) | refine gd2_l (hk := ?_) | refine gd2_lp (hk := ?_) | (refine gd2_newp (hk := ?_); intro id) | refine gd2_st (hk := ?_) | (refine gd2_bsl rfl rfl ?_; intro u; try simp only [llc, lln, lna, lza]) | (refine gd2_a (hk := ?_); intro u; try simp only [llc, lln, lna, lza])) | (show GO _ _ _ _ _ (⟨none, none, _⟩ :: _) _; refine go_st (hk := ?_)) | (show GD _ _ _ _ _ _ _ (⟨none, none, _⟩ :: _) _; refine gd_st (hk := ?_)) | (show GR _ _ _ _ _ _ (⟨none, none, _⟩ :: _) _; refine gr_st (hk := ?_)) | (show GO _ _ _ _ _ (⟨_, some _, _⟩ :: _) _; first | refine go_in (hk := ?_) | refine go_out (hk := ?_) | refine go_void (hk := ?_)) | (show GQ _ _ _ _ _ _ _ (⟨_, some _, _⟩ :: _) _; first | refine gq_in (hk := ?_) | refine gq_out (hk := ?_) | refine gq_void (hk := ?_)) | (show GK _ _ _ _ (blockK _ _ _); refine gk_past rfl ?_) | (show GC _ _ _ _ _ (.cond _ _ _) _; first | refine gc_yes (h1 := ?_) | refine gc_no (h1 := ?_))))
          refine gc_drw2q (qtTab [(fn_impl_through, dThrough), (fn_impl_line_above, dAbove), (fn_impl_Frac_size, dSizeI)]) (fun H => qtTab_cons (dThrough_ok H) (qtTab_cons (dAbove_ok H) (qtTab_cons (dSizeI_ok H) qtTab_nil))) (fun base => ?_)
          (repeat (first | refine gst (hk := ?_) | (with_reducible refine gc_drq ?_; intro _) | (with_reducible first | (refine gc_drw (h := ?_); intro _) | (refine gc_drw2 (h := ?_); intro _)) | (show GO _ _ _ _ _ (⟨some _, none, .call _ _⟩ :: _) _; first | (refine go_callp rfl code_impl_ValidCloud.callable (fun H hH => implValidCloud_ok (hH.ints (by exact Has.auto)) (hH.ints (by exact Has.auto)) (by omega) (by omega)) ?_)) | (show GO _ _ _ _ _ (⟨some _, none, _⟩ :: _) _; first | refine go_op (hk := ?_) | (refine go_nw (hk := ?_); intro u; try simp only [llc, lln, lna, lza]) | (refine go_np (hk := ?_); intro id)) | (show GQ _ _ _ _ _ _ _ (⟨some _, none, _⟩ :: _) _; first | refine gq_op (hk := ?_) | (refine gq_nw (hk := ?_); intro u; try simp only [llc, lln, lna, lza])) | (show GD _ _ _ _ _ _ _ (⟨some _, none, _⟩ :: _) _; first | refine gd_op (hk := ?_) | (refine gd_nw (hk := ?_); intro u; try simp only [llc, lln, lna, lza])) | (show GR _ _ _ _ _ _ (⟨some _, none, _⟩ :: _) _; refine gr_op (hk := ?_)) | (show GD2 _ _ _ _ _ _ _ _ _ _ _ _ _ _; first | refine gd2_nil rfl ?_ | refine gd2_op (hk := ?_) | (refine gd2_nw (hk := ?_); intro u; try simp only [llc, lln, lna, lza]) | refine gd2_l (hk := ?_) | refine gd2_lp (hk := ?_) | (refine gd2_newp (hk := ?_); intro id) | refine gd2_st (hk := ?_) | (refine gd2_bsl rfl rfl ?_; intro u; try simp only [llc, lln, lna, lza]) | (refine gd2_a (hk := ?_); intro u; try simp only [llc, lln, lna, lza])) | (show GO _ _ _ _ _ (⟨none, none, _⟩ :: _) _; refine go_st (hk := ?_)) | (show GD _ _ _ _ _ _ _ (⟨none, none, _⟩ :: _) _; refine gd_st (hk := ?_)) | (show GR _ _ _ _ _ _ (⟨none, none, _⟩ :: _) _; refine gr_st (hk := ?_)) | (show GO _ _ _ _ _ (⟨_, some _, _⟩ :: _) _; first | refine go_in (hk := ?_) | refine go_out (hk := ?_) | refine go_void (hk := ?_)) | (show GQ _ _ _ _ _ _ _ (⟨_, some _, _⟩ :: _) _; first | refine gq_in (hk := ?_) | refine gq_out (hk := ?_) | refine gq_void (hk := ?_)) | (show GK _ _ _ _ (blockK _ _ _); refine gk_past rfl ?_) | (show GC _ _ _ _ _ (.cond _ _ _) _; first | refine gc_yes (h1 := ?_) | refine gc_no (h1 := ?_))))
          refine gd2_call rfl (dThrough_is (p := q) (q := r) q1 q2 hne) ?_
          (repeat (first | refine gst (hk := ?_) | (with_reducible refine gc_drq ?_; intro _) | (with_reducible first | (refine gc_drw (h := ?_); intro _) | (refine gc_drw2 (h := ?_); intro _)) | (show GO _ _ _ _ _ (⟨some _, none, .call _ _⟩ :: _) _; first | (refine go_callp rfl code_impl_ValidCloud.callable (fun H hH => implValidCloud_ok (hH.ints (by exact Has.auto)) (hH.ints (by exact Has.auto)) (by omega) (by omega)) ?_)) | (show GO _ _ _ _ _ (⟨some _, none, _⟩ :: _) _; first | refine go_op (hk := ?_) | (refine go_nw (hk := ?_); intro u; try simp only [llc, lln, lna, lza]) | (refine go_np (hk := ?_); intro id)) | (show GQ _ _ _ _ _ _ _ (⟨some _, none, _⟩ :: _) _; first | refine gq_op (hk := ?_) | (refine gq_nw (hk := ?_); intro u; try simp only [llc, lln, lna, lza])) | (show GD _ _ _ _ _ _ _ (⟨some _, none, _⟩ :: _) _; first | refine gd_op (hk := ?_) | (refine gd_nw (hk := ?_); intro u; try simp only [llc, lln, lna, lza])) | (show GR _ _ _ _ _ _ (⟨some _, none, _⟩ :: _) _; refine gr_op (hk := ?_)) | (show GD2 _ _ _ _ _ _ _ _ _ _ _ _ _ _; first | refine gd2_nil rfl ?_ | refine gd2_op (hk := ?_) | (refine gd2_nw (hk := ?_); intro u; try simp only [llc, lln, lna, lza]) | refine gd2_l (hk := ?_) | refine gd2_lp (hk := ?_) | (refine gd2_newp (hk := ?_); intro id) | refine gd2_st (hk := ?_) | (refine gd2_bsl rfl rfl ?_; intro u; try simp only [llc, lln, lna, lza]) | (refine gd2_a (hk := ?_); intro u; try simp only [llc, lln, lna, lza])) | (show GO _ _ _ _ _ (⟨none, none, _⟩ :: _) _; refine go_st (hk := ?_)) | (show GD _ _ _ _ _ _ _ (⟨none, none, _⟩ :: _) _; refine gd_st (hk := ?_)) | (show GR _ _ _ _ _ _ (⟨none, none, _⟩ :: _) _; refine gr_st (hk := ?_)) | (show GO _ _ _ _ _ (⟨_, some _, _⟩ :: _) _; first | refine go_in (hk := ?_) | refine go_out (hk := ?_) | refine go_void (hk := ?_)) | (show GQ _ _ _ _ _ _ _ (⟨_, some _, _⟩ :: _) _; first | refine gq_in (hk := ?_) | refine gq_out (hk := ?_) | refine gq_void (hk := ?_)) | (show GK _ _ _ _ (blockK _ _ _); refine gk_past rfl ?_) | (show GC _ _ _ _ _ (.cond _ _ _) _; first | refine gc_yes (h1 := ?_) | refine gc_no (h1 := ?_))))
          refine gd2_call rfl (dAbove_is (p := p) (s := thS q r) (h := thH q r) (by omega) (by omega) hln) ?_
          refine gd2_call rfl (dSize_is (by omega)) ?_
          rw [show absR (((p.2 : Int) : Rat) - (thS q r * ((p.1 : Int) : Rat) + thH q r)) = gap3 p q r from rfl]
          refine gd2_bslg (stp_bslF (q := gap3 p q r) rfl) ?_
          intro u1
          (repeat (first | refine gst (hk := ?_) | (with_reducible refine gc_drq ?_; intro _) | (with_reducible first | (refine gc_drw (h := ?_); intro _) | (refine gc_drw2 (h := ?_); intro _)) | (show GO _ _ _ _ _ (⟨some _, none, .call _ _⟩ :: _) _; first | (refine go_callp rfl code_impl_ValidCloud.callable (fun H hH => implValidCloud_ok (hH.ints (by exact Has.auto)) (hH.ints (by exact Has.auto)) (by omega) (by omega)) ?_)) | (show GO _ _ _ _ _ (⟨some _, none, _⟩ :: _) _; first | refine go_op (hk := ?_) | (refine go_nw (hk := ?_); intro u; try simp only [llc, lln, lna, lza]) | (refine go_np (hk := ?_); intro id)) | (show GQ _ _ _ _ _ _ _ (⟨some _, none, _⟩ :: _) _; first | refine gq_op (hk := ?_) | (refine gq_nw (hk := ?_); intro u; try simp only [llc, lln, lna, lza])) | (show GD _ _ _ _ _ _ _ (⟨some _, none, _⟩ :: _) _; first | refine gd_op (hk := ?_) | (refine gd_nw (hk := ?_); intro u; try simp only [llc, lln, lna, lza])) | (show GR _ _ _ _ _ _ (⟨some _, none, _⟩ :: _) _; refine gr_op (hk := ?_)) | (show GD2 _ _ _ _ _ _ _ _ _ _ _ _ _ _; first | refine gd2_nil rfl ?_ | refine gd2_op (hk := ?_) | (refine gd2_nw (hk := ?_); intro u; try simp only [llc, lln, lna, lza]) | refine gd2_l (hk := ?_) | refine gd2_lp (hk := ?_) | (refine gd2_newp (hk := ?_); intro id) | refine gd2_st (hk := ?_) | (refine gd2_bsl rfl rfl ?_; intro u; try simp only [llc, lln, lna, lza]) | (refine gd2_a (hk := ?_); intro u; try simp only [llc, lln, lna, lza])) | (show GO _ _ _ _ _ (⟨none, none, _⟩ :: _) _; refine go_st (hk := ?_)) | (show GD _ _ _ _ _ _ _ (⟨none, none, _⟩ :: _) _; refine gd_st (hk := ?_)) | (show GR _ _ _ _ _ _ (⟨none, none, _⟩ :: _) _; refine gr_st (hk := ?_)) | (show GO _ _ _ _ _ (⟨_, some _, _⟩ :: _) _; first | refine go_in (hk := ?_) | refine go_out (hk := ?_) | refine go_void (hk := ?_)) | (show GQ _ _ _ _ _ _ _ (⟨_, some _, _⟩ :: _) _; first | refine gq_in (hk := ?_) | refine gq_out (hk := ?_) | refine gq_void (hk := ?_)) | (show GK _ _ _ _ (blockK _ _ _); refine gk_past rfl ?_) | (show GC _ _ _ _ _ (.cond _ _ _) _; first | refine gc_yes (h1 := ?_) | refine gc_no (h1 := ?_))))
          refine go_new rfl (stp_appF (L := B) (M := [gap3 p q r]) rfl rfl (by exact Sel.auto) (by exact Has.auto) (by omega)) ?_
          intro u2
          rw [show B.length + 1 = (B ++ [gap3 p q r]).length by simp]
          refine go_is0 rfl (stp_stv rfl rfl (by exact Has.auto) (by exact Sel.auto)) ?_
          (repeat (first | refine gst (hk := ?_) | (with_reducible refine gc_drq ?_; intro _) | (with_reducible first | (refine gc_drw (h := ?_); intro _) | (refine gc_drw2 (h := ?_); intro _)) | (show GO _ _ _ _ _ (⟨some _, none, .call _ _⟩ :: _) _; first | (refine go_callp rfl code_impl_ValidCloud.callable (fun H hH => implValidCloud_ok (hH.ints (by exact Has.auto)) (hH.ints (by exact Has.auto)) (by omega) (by omega)) ?_)) | (show GO _ _ _ _ _ (⟨some _, none, _⟩ :: _) _; first | refine go_op (hk := ?_) | (refine go_nw (hk := ?_); intro u; try simp only [llc, lln, lna, lza]) | (refine go_np (hk := ?_); intro id)) | (show GQ _ _ _ _ _ _ _ (⟨some _, none, _⟩ :: _) _; first | refine gq_op (hk := ?_) | (refine gq_nw (hk := ?_); intro u; try simp only [llc, lln, lna, lza])) | (show GD _ _ _ _ _ _ _ (⟨some _, none, _⟩ :: _) _; first | refine gd_op (hk := ?_) | (refine gd_nw (hk := ?_); intro u; try simp only [llc, lln, lna, lza])) | (show GR _ _ _ _ _ _ (⟨some _, none, _⟩ :: _) _; refine gr_op (hk := ?_)) | (show GD2 _ _ _ _ _ _ _ _ _ _ _ _ _ _; first | refine gd2_nil rfl ?_ | refine gd2_op (hk := ?_) | (refine gd2_nw (hk := ?_); intro u; try simp only [llc, lln, lna, lza]) | refine gd2_l (hk := ?_) | refine gd2_lp (hk := ?_) | (refine gd2_newp (hk := ?_); intro id) | refine gd2_st (hk := ?_) | (refine gd2_bsl rfl rfl ?_; intro u; try simp only [llc, lln, lna, lza]) | (refine gd2_a (hk := ?_); intro u; try simp only [llc, lln, lna, lza])) | (show GO _ _ _ _ _ (⟨none, none, _⟩ :: _) _; refine go_st (hk := ?_)) | (show GD _ _ _ _ _ _ _ (⟨none, none, _⟩ :: _) _; refine gd_st (hk := ?_)) | (show GR _ _ _ _ _ _ (⟨none, none, _⟩ :: _) _; refine gr_st (hk := ?_)) | (show GO _ _ _ _ _ (⟨_, some _, _⟩ :: _) _; first | refine go_in (hk := ?_) | refine go_out (hk := ?_) | refine go_void (hk := ?_)) | (show GQ _ _ _ _ _ _ _ (⟨_, some _, _⟩ :: _) _; first | refine gq_in (hk := ?_) | refine gq_out (hk := ?_) | refine gq_void (hk := ?_)) | (show GK _ _ _ _ (blockK _ _ _); refine gk_past rfl ?_) | (show GC _ _ _ _ _ (.cond _ _ _) _; first | refine gc_yes (h1 := ?_) | refine gc_no (h1 := ?_))))
          exact gk_next (F := []) (g2 [] u2) (hs := Sub.cons (by exact Sel.auto) (Sub.cons (by exact Sel.auto) (Sub.cons (by exact Sel.auto) (Sub.cons (by exact Sel.auto) (Sub.cons (by exact Sel.auto) (Sub.cons (by exact Sel.auto) (Sub.cons (by exact Sel.auto) (sub_drop (sub_drop (sub_drop (sub_refl _)))))))))))
        · have eg : gp1 p q r = [] := if_neg fun h => h6 h.2.2
          rw [eg, List.append_nil] at g2
          (repeat (first | refine gst (hk := ?_) | (with_reducible refine gc_drq ?_; intro _) | (with_reducible first | (refine gc_drw (h := ?_); intro _) | (refine gc_drw2 (h := ?_); intro _)) | (show GO _ _ _ _ _ (⟨some _, none, .call _ _⟩ :: _) _; first | (refine go_callp rfl code_impl_ValidCloud.callable (fun H hH => implValidCloud_ok (hH.ints (by exact Has.auto)) (hH.ints (by exact Has.auto)) (by omega) (by omega)) ?_)) | (show GO _ _ _ _ _ (⟨some _, none, _⟩ :: _) _; first | refine go_op (hk := ?_) | (refine go_nw (hk := ?_); intro u; try simp only [llc, lln, lna, lza]) | (refine go_np (hk := ?_); intro id)) | (show GQ _ _ _ _ _ _ _ (⟨some _, none, _⟩ :: _) _; first | refine gq_op (hk := ?_) | (refine gq_nw (hk := ?_); intro u; try simp only [llc, lln, lna, lza])) | (show GD _ _ _ _ _ _ _ (⟨some _, none, _⟩ :: _) _; first | refine gd_op (hk := ?_) | (refine gd_nw (hk := ?_); intro u; try simp only [llc, lln, lna, lza])) | (show GR _ _ _ _ _ _ (⟨some _, none, _⟩ :: _) _; refine gr_op (hk := ?_)) | (show GD2 _ _ _ _ _ _ _ _ _ _ _ _ _ _; first | refine gd2_nil rfl ?_ | refine gd2_op (hk := ?_) | (refine gd2_nw (hk := ?_); intro u; try simp only [llc, lln, lna, lza]) | refine gd2_l (hk := ?_) | refine gd2_lp (hk := ?_) | (refine gd2_newp (hk := ?_); intro id) | refine gd2_st (hk := ?_) | (refine gd2_bsl rfl rfl ?_; intro u; try simp only [llc, lln, lna, lza]) | (refine gd2_a (hk := ?_); intro u; try simp only [llc, lln, lna, lza])) | (show GO _ _ _ _ _ (⟨none, none, _⟩ :: _) _; refine go_st (hk := ?_)) | (show GD _ _ _ _ _ _ _ (⟨none, none, _⟩ :: _) _; refine gd_st (hk := ?_)) | (show GR _ _ _ _ _ _ (⟨none, none, _⟩ :: _) _; refine gr_st (hk := ?_)) | (show GO _ _ _ _ _ (⟨_, some _, _⟩ :: _) _; first | refine go_in (hk := ?_) | refine go_out (hk := ?_) | refine go_void (hk := ?_)) | (show GQ _ _ _ _ _ _ _ (⟨_, some _, _⟩ :: _) _; first | refine gq_in (hk := ?_) | refine gq_out (hk := ?_) | refine gq_void (hk := ?_)) | (show GK _ _ _ _ (blockK _ _ _); refine gk_past rfl ?_) | (show GC _ _ _ _ _ (.cond _ _ _) _; first | refine gc_yes (h1 := ?_) | refine gc_no (h1 := ?_))))
          exact gk_next (F := []) (g2 [] u) (hs := Sub.cons (by exact Sel.auto) (Sub.cons (by exact Sel.auto) (Sub.cons (by exact Sel.auto) (Sub.cons (by exact Sel.auto) (Sub.cons (by exact Sel.auto) (Sub.cons (by exact Sel.auto) (Sub.cons (by exact Sel.auto) (sub_drop (sub_drop (sub_refl _))))))))))
      · have eg : gp1 p q r = [] := if_neg fun h => h5 h.2.1
        rw [eg, List.append_nil] at g2
        (repeat (first | refine gst (hk := ?_) | (with_reducible refine gc_drq ?_; intro _) | (with_reducible first | (refine gc_drw (h := ?_); intro _) | (refine gc_drw2 (h := ?_); intro _)) | (show GO _ _ _ _ _ (⟨some _, none, .call _ _⟩ :: _) _; first | (refine go_callp rfl code_impl_ValidCloud.callable (fun H hH => implValidCloud_ok (hH.ints (by exact Has.auto)) (hH.ints (by exact Has.auto)) (by omega) (by omega)) ?_)) | (show GO _ _ _ _ _ (⟨some _, none, _⟩ :: _) _; first | refine go_op (hk := ?_) | (refine go_nw (hk := ?_); intro u; try simp only [llc, lln, lna, lza]) | (refine go_np (hk := ?_); intro id)) | (show GQ _ _ _ _ _ _ _ (⟨some _, none, _⟩ :: _) _; first | refine gq_op (hk := ?_) | (refine gq_nw (hk := ?_); intro u; try simp only [llc, lln, lna, lza])) | (show GD _ _ _ _ _ _ _ (⟨some _, none, _⟩ :: _) _; first | refine gd_op (hk := ?_) | (refine gd_nw (hk := ?_); intro u; try simp only [llc, lln, lna, lza])) | (show GR _ _ _ _ _ _ (⟨some _, none, _⟩ :: _) _; refine gr_op (hk := ?_)) | (show GD2 _ _ _ _ _ _ _ _ _ _ _ _ _ _; first | refine gd2_nil rfl ?_ | refine gd2_op (hk := ?_) | (refine gd2_nw (hk := ?_); intro u; try simp only [llc, lln, lna, lza]) | refine gd2_l (hk := ?_) | refine gd2_lp (hk := ?_) | (refine gd2_newp (hk := ?_); intro id) | refine gd2_st (hk := ?_) | (refine gd2_bsl rfl rfl ?_; intro u; try simp only [llc, lln, lna, lza]) | (refine gd2_a (hk := ?_); intro u; try simp only [llc, lln, lna, lza])) | (show GO _ _ _ _ _ (⟨none, none, _⟩ :: _) _; refine go_st (hk := ?_)) | (show GD _ _ _ _ _ _ _ (⟨none, none, _⟩ :: _) _; refine gd_st (hk := ?_)) | (show GR _ _ _ _ _ _ (⟨none, none, _⟩ :: _) _; refine gr_st (hk := ?_)) | (show GO _ _ _ _ _ (⟨_, some _, _⟩ :: _) _; first | refine go_in (hk := ?_) | refine go_out (hk := ?_) | refine go_void (hk := ?_)) | (show GQ _ _ _ _ _ _ _ (⟨_, some _, _⟩ :: _) _; first | refine gq_in (hk := ?_) | refine gq_out (hk := ?_) | refine gq_void (hk := ?_)) | (show GK _ _ _ _ (blockK _ _ _); refine gk_past rfl ?_) | (show GC _ _ _ _ _ (.cond _ _ _) _; first | refine gc_yes (h1 := ?_) | refine gc_no (h1 := ?_))))
        exact gk_next (F := []) (g2 [] u) (hs := Sub.cons (by exact Sel.auto) (Sub.cons (by exact Sel.auto) (Sub.cons (by exact Sel.auto) (Sub.cons (by exact Sel.auto) (Sub.cons (by exact Sel.auto) (Sub.cons (by exact Sel.auto) (Sub.cons (by exact Sel.auto) (sub_drop (sub_drop (sub_refl _))))))))))
    · intro z
      have e3 : gpT L k ++ (gpQ (L.eraseIdx k) (nthP L k) (n - 1) (n - 1) ++ gpI (L.eraseIdx k) (nthP L k) (n - 1) 0) = gpT L (k + 1) := by
        rw [show gpI (L.eraseIdx k) (nthP L k) (n - 1) 0 = [] from rfl, List.append_nil, gpT, catN, ← gpT, hL]
      simp only [tsSig, e3]
      (repeat (first | refine gst (hk := ?_) | (with_reducible refine gc_drq ?_; intro _) | (with_reducible first | (refine gc_drw (h := ?_); intro _) | (refine gc_drw2 (h := ?_); intro _)) | (show GO _ _ _ _ _ (⟨some _, none, .call _ _⟩ :: _) _; first | (refine go_callp rfl code_impl_ValidCloud.callable (fun H hH => implValidCloud_ok (hH.ints (by exact Has.auto)) (hH.ints (by exact Has.auto)) (by omega) (by omega)) ?_)) | (show GO _ _ _ _ _ (⟨some _, none, _⟩ :: _) _; first | refine go_op (hk := ?_) | (refine go_nw (hk := ?_); intro u; try simp only [llc, lln, lna, lza]) | (refine go_np (hk := ?_); intro id)) | (show GQ _ _ _ _ _ _ _ (⟨some _, none, _⟩ :: _) _; first | refine gq_op (hk := ?_) | (refine gq_nw (hk := ?_); intro u; try simp only [llc, lln, lna, lza])) | (show GD _ _ _ _ _ _ _ (⟨some _, none, _⟩ :: _) _; first | refine gd_op (hk := ?_) | (refine gd_nw (hk := ?_); intro u; try simp only [llc, lln, lna, lza])) | (show GR _ _ _ _ _ _ (⟨some _, none, _⟩ :: _) _; refine gr_op (hk := ?_)) | (show GD2 _ _ _ _ _ _ _ _ _ _ _ _ _ _; first | refine gd2_nil rfl ?_ | refine gd2_op (hk := ?_) | (refine gd2_nw (hk := ?_); intro u; try simp only [llc, lln, lna, lza]) | refine gd2_l (hk := ?_) | refine gd2_lp (hk := ?_) | (refine gd2_newp (hk := ?_); intro id) | refine gd2_st (hk := ?_) | (refine gd2_bsl rfl rfl ?_; intro u; try simp only [llc, lln, lna, lza]) | (refine gd2_a (hk := ?_); intro u; try simp only [llc, lln, lna, lza])) | (show GO _ _ _ _ _ (⟨none, none, _⟩ :: _) _; refine go_st (hk := ?_)) | (show GD _ _ _ _ _ _ _ (⟨none, none, _⟩ :: _) _; refine gd_st (hk := ?_)) | (show GR _ _ _ _ _ _ (⟨none, none, _⟩ :: _) _; refine gr_st (hk := ?_)) | (show GO _ _ _ _ _ (⟨_, some _, _⟩ :: _) _; first | refine go_in (hk := ?_) | refine go_out (hk := ?_) | refine go_void (hk := ?_)) | (show GQ _ _ _ _ _ _ _ (⟨_, some _, _⟩ :: _) _; first | refine gq_in (hk := ?_) | refine gq_out (hk := ?_) | refine gq_void (hk := ?_)) | (show GK _ _ _ _ (blockK _ _ _); refine gk_past rfl ?_) | (show GC _ _ _ _ _ (.cond _ _ _) _; first | refine gc_yes (h1 := ?_) | refine gc_no (h1 := ?_))))
      exact gk_next (hkk z)
  · have : k = n := by omega
    subst this
    (repeat (first | refine gst (hk := ?_) | (with_reducible refine gc_drq ?_; intro _) | (with_reducible first | (refine gc_drw (h := ?_); intro _) | (refine gc_drw2 (h := ?_); intro _)) | (show GO _ _ _ _ _ (⟨some _, none, .call _ _⟩ :: _) _; first | (refine go_callp rfl code_impl_ValidCloud.callable (fun H hH => implValidCloud_ok (hH.ints (by exact Has.auto)) (hH.ints (by exact Has.auto)) (by omega) (by omega)) ?_)) | (show GO _ _ _ _ _ (⟨some _, none, _⟩ :: _) _; first | refine go_op (hk := ?_) | (refine go_nw (hk := ?_); intro u; try simp only [llc, lln, lna, lza]) | (refine go_np (hk := ?_); intro id)) | (show GQ _ _ _ _ _ _ _ (⟨some _, none, _⟩ :: _) _; first | refine gq_op (hk := ?_) | (refine gq_nw (hk := ?_); intro u; try simp only [llc, lln, lna, lza])) | (show GD _ _ _ _ _ _ _ (⟨some _, none, _⟩ :: _) _; first | refine gd_op (hk := ?_) | (refine gd_nw (hk := ?_); intro u; try simp only [llc, lln, lna, lza])) | (show GR _ _ _ _ _ _ (⟨some _, none, _⟩ :: _) _; refine gr_op (hk := ?_)) | (show GD2 _ _ _ _ _ _ _ _ _ _ _ _ _ _; first | refine gd2_nil rfl ?_ | refine gd2_op (hk := ?_) | (refine gd2_nw (hk := ?_); intro u; try simp only [llc, lln, lna, lza]) | refine gd2_l (hk := ?_) | refine gd2_lp (hk := ?_) | (refine gd2_newp (hk := ?_); intro id) | refine gd2_st (hk := ?_) | (refine gd2_bsl rfl rfl ?_; intro u; try simp only [llc, lln, lna, lza]) | (refine gd2_a (hk := ?_); intro u; try simp only [llc, lln, lna, lza])) | (show GO _ _ _ _ _ (⟨none, none, _⟩ :: _) _; refine go_st (hk := ?_)) | (show GD _ _ _ _ _ _ _ (⟨none, none, _⟩ :: _) _; refine gd_st (hk := ?_)) | (show GR _ _ _ _ _ _ (⟨none, none, _⟩ :: _) _; refine gr_st (hk := ?_)) | (show GO _ _ _ _ _ (⟨_, some _, _⟩ :: _) _; first | refine go_in (hk := ?_) | refine go_out (hk := ?_) | refine go_void (hk := ?_)) | (show GQ _ _ _ _ _ _ _ (⟨_, some _, _⟩ :: _) _; first | refine gq_in (hk := ?_) | refine gq_out (hk := ?_) | refine gq_void (hk := ?_)) | (show GK _ _ _ _ (blockK _ _ _); refine gk_past rfl ?_) | (show GC _ _ _ _ _ (.cond _ _ _) _; first | refine gc_yes (h1 := ?_) | refine gc_no (h1 := ?_))))
    obtain ⟨D, d, fm⟩ := hgm
    have w2 : FitO (gaM xs ys) 2 := fitO_of fm (by omega) (by omega) (by omega) (by omega)
    refine gc_drcs (fun H => qtTab [(fn_impl_whole, dWhole), (fn_impl_greatest_impl_Frac, dOne [frV (gaF xs ys 0), u] (frV (gaM xs ys))), (fn_impl_Frac_over, dOverI)]) (fun H hH => ?_) (fun H0 h0 => ?_)
    · refine qtTab_cons (dWhole_ok H) (qtTab_cons (dOne_ok code_impl_greatest_impl_Frac.callable ?_) (qtTab_cons (dOverI_ok H) qtTab_nil))
      rw [eM]
      exact greatestF_ok (f := gaF xs ys) (hH.valsA (v := u) (es := 2) (n := (gpT L k).length) (cs := frs (gpT L k)) (by exact Has.auto)) hga2 (by
        have c5 : (L.length - 1) * (L.length - 1) ≤ 6 * 6 := Nat.mul_le_mul (by omega) (by omega)
        have c6 : k * ((L.length - 1) * (L.length - 1)) ≤ 7 * (6 * 6) := Nat.mul_le_mul (by omega) c5
        have := hb0 k
        omega) hga
    (repeat (first | refine gst (hk := ?_) | (with_reducible refine gc_drq ?_; intro _) | (with_reducible first | (refine gc_drw (h := ?_); intro _) | (refine gc_drw2 (h := ?_); intro _)) | (show GO _ _ _ _ _ (⟨some _, none, .call _ _⟩ :: _) _; first | (refine go_callp rfl code_impl_ValidCloud.callable (fun H hH => implValidCloud_ok (hH.ints (by exact Has.auto)) (hH.ints (by exact Has.auto)) (by omega) (by omega)) ?_)) | (show GO _ _ _ _ _ (⟨some _, none, _⟩ :: _) _; first | refine go_op (hk := ?_) | (refine go_nw (hk := ?_); intro u; try simp only [llc, lln, lna, lza]) | (refine go_np (hk := ?_); intro id)) | (show GQ _ _ _ _ _ _ _ (⟨some _, none, _⟩ :: _) _; first | refine gq_op (hk := ?_) | (refine gq_nw (hk := ?_); intro u; try simp only [llc, lln, lna, lza])) | (show GD _ _ _ _ _ _ _ (⟨some _, none, _⟩ :: _) _; first | refine gd_op (hk := ?_) | (refine gd_nw (hk := ?_); intro u; try simp only [llc, lln, lna, lza])) | (show GR _ _ _ _ _ _ (⟨some _, none, _⟩ :: _) _; refine gr_op (hk := ?_)) | (show GD2 _ _ _ _ _ _ _ _ _ _ _ _ _ _; first | refine gd2_nil rfl ?_ | refine gd2_op (hk := ?_) | (refine gd2_nw (hk := ?_); intro u; try simp only [llc, lln, lna, lza]) | refine gd2_l (hk := ?_) | refine gd2_lp (hk := ?_) | (refine gd2_newp (hk := ?_); intro id) | refine gd2_st (hk := ?_) | (refine gd2_bsl rfl rfl ?_; intro u; try simp only [llc, lln, lna, lza]) | (refine gd2_a (hk := ?_); intro u; try simp only [llc, lln, lna, lza])) | (show GO _ _ _ _ _ (⟨none, none, _⟩ :: _) _; refine go_st (hk := ?_)) | (show GD _ _ _ _ _ _ _ (⟨none, none, _⟩ :: _) _; refine gd_st (hk := ?_)) | (show GR _ _ _ _ _ _ (⟨none, none, _⟩ :: _) _; refine gr_st (hk := ?_)) | (show GO _ _ _ _ _ (⟨_, some _, _⟩ :: _) _; first | refine go_in (hk := ?_) | refine go_out (hk := ?_) | refine go_void (hk := ?_)) | (show GQ _ _ _ _ _ _ _ (⟨_, some _, _⟩ :: _) _; first | refine gq_in (hk := ?_) | refine gq_out (hk := ?_) | refine gq_void (hk := ?_)) | (show GK _ _ _ _ (blockK _ _ _); refine gk_past rfl ?_) | (show GC _ _ _ _ _ (.cond _ _ _) _; first | refine gc_yes (h1 := ?_) | refine gc_no (h1 := ?_))))
    refine gr_call (v := frV ((0 : Int) : Rat)) rfl rfl ?_
    (repeat (first | refine gst (hk := ?_) | (with_reducible refine gc_drq ?_; intro _) | (with_reducible first | (refine gc_drw (h := ?_); intro _) | (refine gc_drw2 (h := ?_); intro _)) | (show GO _ _ _ _ _ (⟨some _, none, .call _ _⟩ :: _) _; first | (refine go_callp rfl code_impl_ValidCloud.callable (fun H hH => implValidCloud_ok (hH.ints (by exact Has.auto)) (hH.ints (by exact Has.auto)) (by omega) (by omega)) ?_)) | (show GO _ _ _ _ _ (⟨some _, none, _⟩ :: _) _; first | refine go_op (hk := ?_) | (refine go_nw (hk := ?_); intro u; try simp only [llc, lln, lna, lza]) | (refine go_np (hk := ?_); intro id)) | (show GQ _ _ _ _ _ _ _ (⟨some _, none, _⟩ :: _) _; first | refine gq_op (hk := ?_) | (refine gq_nw (hk := ?_); intro u; try simp only [llc, lln, lna, lza])) | (show GD _ _ _ _ _ _ _ (⟨some _, none, _⟩ :: _) _; first | refine gd_op (hk := ?_) | (refine gd_nw (hk := ?_); intro u; try simp only [llc, lln, lna, lza])) | (show GR _ _ _ _ _ _ (⟨some _, none, _⟩ :: _) _; refine gr_op (hk := ?_)) | (show GD2 _ _ _ _ _ _ _ _ _ _ _ _ _ _; first | refine gd2_nil rfl ?_ | refine gd2_op (hk := ?_) | (refine gd2_nw (hk := ?_); intro u; try simp only [llc, lln, lna, lza]) | refine gd2_l (hk := ?_) | refine gd2_lp (hk := ?_) | (refine gd2_newp (hk := ?_); intro id) | refine gd2_st (hk := ?_) | (refine gd2_bsl rfl rfl ?_; intro u; try simp only [llc, lln, lna, lza]) | (refine gd2_a (hk := ?_); intro u; try simp only [llc, lln, lna, lza])) | (show GO _ _ _ _ _ (⟨none, none, _⟩ :: _) _; refine go_st (hk := ?_)) | (show GD _ _ _ _ _ _ _ (⟨none, none, _⟩ :: _) _; refine gd_st (hk := ?_)) | (show GR _ _ _ _ _ _ (⟨none, none, _⟩ :: _) _; refine gr_st (hk := ?_)) | (show GO _ _ _ _ _ (⟨_, some _, _⟩ :: _) _; first | refine go_in (hk := ?_) | refine go_out (hk := ?_) | refine go_void (hk := ?_)) | (show GQ _ _ _ _ _ _ _ (⟨_, some _, _⟩ :: _) _; first | refine gq_in (hk := ?_) | refine gq_out (hk := ?_) | refine gq_void (hk := ?_)) | (show GK _ _ _ _ (blockK _ _ _); refine gk_past rfl ?_) | (show GC _ _ _ _ _ (.cond _ _ _) _; first | refine gc_yes (h1 := ?_) | refine gc_no (h1 := ?_))))
    refine gr_call rfl (dOne_is (args := [frV (gaF xs ys 0), u])) ?_
    refine gr_call rfl (dOverI_is w2) ?_
    (repeat (first | refine gst (hk := ?_) | (with_reducible refine gc_drq ?_; intro _) | (with_reducible first | (refine gc_drw (h := ?_); intro _) | (refine gc_drw2 (h := ?_); intro _)) | (show GO _ _ _ _ _ (⟨some _, none, .call _ _⟩ :: _) _; first | (refine go_callp rfl code_impl_ValidCloud.callable (fun H hH => implValidCloud_ok (hH.ints (by exact Has.auto)) (hH.ints (by exact Has.auto)) (by omega) (by omega)) ?_)) | (show GO _ _ _ _ _ (⟨some _, none, _⟩ :: _) _; first | refine go_op (hk := ?_) | (refine go_nw (hk := ?_); intro u; try simp only [llc, lln, lna, lza]) | (refine go_np (hk := ?_); intro id)) | (show GQ _ _ _ _ _ _ _ (⟨some _, none, _⟩ :: _) _; first | refine gq_op (hk := ?_) | (refine gq_nw (hk := ?_); intro u; try simp only [llc, lln, lna, lza])) | (show GD _ _ _ _ _ _ _ (⟨some _, none, _⟩ :: _) _; first | refine gd_op (hk := ?_) | (refine gd_nw (hk := ?_); intro u; try simp only [llc, lln, lna, lza])) | (show GR _ _ _ _ _ _ (⟨some _, none, _⟩ :: _) _; refine gr_op (hk := ?_)) | (show GD2 _ _ _ _ _ _ _ _ _ _ _ _ _ _; first | refine gd2_nil rfl ?_ | refine gd2_op (hk := ?_) | (refine gd2_nw (hk := ?_); intro u; try simp only [llc, lln, lna, lza]) | refine gd2_l (hk := ?_) | refine gd2_lp (hk := ?_) | (refine gd2_newp (hk := ?_); intro id) | refine gd2_st (hk := ?_) | (refine gd2_bsl rfl rfl ?_; intro u; try simp only [llc, lln, lna, lza]) | (refine gd2_a (hk := ?_); intro u; try simp only [llc, lln, lna, lza])) | (show GO _ _ _ _ _ (⟨none, none, _⟩ :: _) _; refine go_st (hk := ?_)) | (show GD _ _ _ _ _ _ _ (⟨none, none, _⟩ :: _) _; refine gd_st (hk := ?_)) | (show GR _ _ _ _ _ _ (⟨none, none, _⟩ :: _) _; refine gr_st (hk := ?_)) | (show GO _ _ _ _ _ (⟨_, some _, _⟩ :: _) _; first | refine go_in (hk := ?_) | refine go_out (hk := ?_) | refine go_void (hk := ?_)) | (show GQ _ _ _ _ _ _ _ (⟨_, some _, _⟩ :: _) _; first | refine gq_in (hk := ?_) | refine gq_out (hk := ?_) | refine gq_void (hk := ?_)) | (show GK _ _ _ _ (blockK _ _ _); refine gk_past rfl ?_) | (show GC _ _ _ _ _ (.cond _ _ _) _; first | refine gc_yes (h1 := ?_) | refine gc_no (h1 := ?_))))
    exact gk_rets (rvs_c rfl (by exact Sel.auto) rfl rfl (rvs_t rfl rvs_nil)) fun H' hH => ⟨rfl, hH.leE⟩

noncomputable def opN (p : Prop) (q : Rat) : Int := by
  classical
  exact if p then q.num else 0

noncomputable def opD (p : Prop) (q : Rat) : Int := by
  classical
  exact if p then (q.den : Int) else 0

noncomputable abbrev opV (p : Prop) (q : Rat) : AV := .agg [.int .i64 (opN p q), .int .i64 (opD p q)]

theorem opV_yes {p : Prop} {q : Rat} (h : p) : opV p q = frV q := by
  unfold opV opN opD; rw [if_pos h, if_pos h]; rfl

theorem opV_no {p : Prop} {q : Rat} (h : ¬ p) : opV p q = fr0 := by
  unfold opV opN opD; rw [if_neg h, if_neg h]

theorem sbX_t (xs ys : List Int) : sbX xs ys = .tuple [opV (Cloud xs ys) (sbR xs ys), .bool (decide (Cloud xs ys))] := by
  unfold sbX
  by_cases h : Cloud xs ys
  · rw [if_pos h, opV_yes h, decide_eq_true h]
  · rw [if_neg h, opV_no h, decide_eq_false h]

theorem tbX_t (xs ys : List Int) : tbX xs ys = .tuple [opV (Cloud xs ys) (tbI xs ys xs.length), .bool (decide (Cloud xs ys))] := by
  unfold tbX
  by_cases h : Cloud xs ys
  · rw [if_pos h, opV_yes h, decide_eq_true h]
  · rw [if_neg h, opV_no h, decide_eq_false h]

theorem specStripByPairs_t {H : Heap} {a b : AV} {xs ys : List Int} (ha : Ints H a xs) (hb : Ints H b ys) (hl : xs.length ≤ 1000000000) (hl' : ys.length ≤ 1000000000) :
    ACalls Try.prog fn_spec_StripByPairs [a, b] H fun r H' => r = .tuple [opV (Cloud xs ys) (sbR xs ys), .bool (decide (Cloud xs ys))] ∧ H' = H := by
  rw [← sbX_t]; exact specStripByPairs_ok ha hb hl hl'

theorem implStripByPairs_t {H : Heap} {a b : AV} {xs ys : List Int} (ha : Ints H a xs) (hb : Ints H b ys) (hl : xs.length ≤ 1000000000) (hl' : ys.length ≤ 1000000000) :
    ACalls Try.prog fn_impl_StripByPairs [a, b] H fun r H' => r = .tuple [opV (Cloud xs ys) (sbR xs ys), .bool (decide (Cloud xs ys))] ∧ H' = H := by
  rw [← sbX_t]; exact implStripByPairs_ok ha hb hl hl'

theorem implStripByThrees_t {H : Heap} {a b : AV} {xs ys : List Int} (ha : Ints H a xs) (hb : Ints H b ys) (hl : xs.length ≤ 1000000000) (hl' : ys.length ≤ 1000000000) :
    ACalls Try.prog fn_impl_StripByThrees [a, b] H fun r H' => r = .tuple [opV (Cloud xs ys) (tbI xs ys xs.length), .bool (decide (Cloud xs ys))] ∧ H' = H := by
  rw [← tbX_t]; exact implStripByThrees_ok ha hb hl hl'

theorem Pts.neg {xs ys : List Int} (h : Pts xs ys) : Pts xs (ys.map (- ·)) := by
  obtain ⟨h1, h2, h3⟩ := h
  refine ⟨fun i hi => ?_, by simp [h2], h3⟩
  have h4 := h1 i hi
  rw [getD_map _ (by omega)]
  exact ⟨by simp; omega, h4.2.1, by omega⟩

theorem Cloud.neg {xs ys : List Int} (h : Cloud xs ys) : Cloud xs (ys.map (- ·)) := ⟨h.1.neg, h.2⟩
/- slopes of what is turned, of what is negated -/

theorem slR_PtR (xs ys : List Int) (i k : Nat) : slR xs ys k i = (PtR ys k - PtR ys i) / (PtR xs k - PtR xs i) := by
  unfold slR PtR
  rw [Rat.intCast_sub, Rat.intCast_sub]

theorem bRes_PtR (xs ys : List Int) (s : Rat) (i : Nat) : bRes xs ys s i = PtR ys i - s * PtR xs i := by
  unfold bRes PtR
  have e2 : ((0 : Int) : Rat) = 0 := rfl
  rw [e2, Rat.add_zero]

theorem nth_take {xs : List Int} {m i : Nat} (h : i < m) : nth (xs.take m) i = nth xs i := by
  unfold nth
  simp [List.getD, List.getElem?_take_of_lt h]

theorem Pts.take {xs ys : List Int} (h : Pts xs ys) (m : Nat) : Pts (xs.take m) (ys.take m) := by
  obtain ⟨h1, h2, h3⟩ := h
  refine ⟨fun i hi => ?_, by simp [h2], by simp; omega⟩
  rw [List.length_take] at hi
  have h4 := h1 i (by omega)
  rw [nth_take (by omega), nth_take (by omega), List.length_take]
  exact ⟨by omega, h4.2⟩

theorem CvOk.take {xs ys : List Int} (h : CvOk xs ys) {m : Nat} (h1 : 1 ≤ m) (hm : m ≤ xs.length) : CvOk (xs.take m) (ys.take m) := by
  have h5 := h.1.2
  have hl : (xs.take m).length = m := by rw [List.length_take]; omega
  refine ⟨⟨h.1.1.take m, by rw [hl]; omega⟩, fun i hi k hk => ?_⟩
  rw [hl] at hi
  rw [nth_take (by omega), nth_take (by omega)]
  exact h.2 i (by omega) k hk

theorem half_is : ((1 : Int) : Rat) / ((2 : Int) : Rat) = 1 / 2 := rfl

theorem bRes_fun (xs ys : List Int) (s : Rat) : bRes xs ys s = resd (PtR xs) (PtR ys) s := by
  funext j; rw [bRes_PtR]; rfl

theorem bWid_wid (xs ys : List Int) (s : Rat) : bWid xs ys s = widR (PtR xs) (PtR ys) xs.length s * (1 / 2) := by
  unfold bWid widR
  rw [bRes_fun, half_is]

theorem thD_PtR (xs ys : List Int) (i k j : Nat) : thD xs ys i k j = PtR ys k - (PtR ys i + (PtR ys j - PtR ys i) / (PtR xs j - PtR xs i) * (PtR xs k - PtR xs i)) := by
  unfold thD
  rw [bRes_PtR, slR_PtR]
  show PtR ys k - (_ * PtR xs k + _) = _
  generalize (PtR ys j - PtR ys i) / (PtR xs j - PtR xs i) = s
  grind

end Go.Rx.Try
