import Derived.Test.YtophpmdlgphihadFnFewestPiecesD2
namespace Go.Rx.Try
open Go.Proofs
set_option maxRecDepth 100000
set_option maxHeartbeats 8000000
set_option linter.unusedSimpArgs false
set_option linter.unusedVariables false

theorem implFewestPieces_ok {H : Heap} {a : AV} {xs : List Int} {r : Int} (ha : Ints H a xs) (hl : xs.length ≤ 1000000000) :
    ACalls Try.prog fn_impl_FewestPieces [a, .int .i64 r] H fun v H' => OwnI H H' v (if FwOk xs r then grZ xs r xs.length else []) ∧ Le H H' := by
  refine code_impl_FewestPieces.go [.roI a xs.length xs] ⟨⟨rfl, ha⟩, trivial⟩ (by simp) ?_
  unfold mc_impl_FewestPieces
  (repeat (first | refine gst (hk := ?_) | (show GO _ _ _ _ _ (⟨some _, none, _⟩ :: _) _; first | refine go_op (hk := ?_) | (refine go_nw (hk := ?_); intro u; try simp only [llc, lln, lna, lza]) | (refine go_np (hk := ?_); intro id)) | (show GO _ _ _ _ _ (⟨none, none, _⟩ :: _) _; refine go_st (hk := ?_)) | (show GO _ _ _ _ _ (⟨_, some _, _⟩ :: _) _; first | refine go_in (hk := ?_) | refine go_out (hk := ?_) | refine go_void (hk := ?_)) | (show GK _ _ _ _ (blockK _ _ _); refine gk_past rfl ?_) | (show GC _ _ _ _ _ (.cond _ _ _) _; first | refine gc_yes (h1 := ?_) | refine gc_no (h1 := ?_))))
  refine go_callp rfl code_impl_validHeights.callable (fun H hH => validHeights_ok (hH.ints (by exact Has.auto)) hl) ?_
  (repeat (first | refine gst (hk := ?_) | (show GO _ _ _ _ _ (⟨some _, none, _⟩ :: _) _; first | refine go_op (hk := ?_) | (refine go_nw (hk := ?_); intro u; try simp only [llc, lln, lna, lza]) | (refine go_np (hk := ?_); intro id)) | (show GO _ _ _ _ _ (⟨none, none, _⟩ :: _) _; refine go_st (hk := ?_)) | (show GO _ _ _ _ _ (⟨_, some _, _⟩ :: _) _; first | refine go_in (hk := ?_) | refine go_out (hk := ?_) | refine go_void (hk := ?_)) | (show GK _ _ _ _ (blockK _ _ _); refine gk_past rfl ?_) | (show GC _ _ _ _ _ (.cond _ _ _) _; first | refine gc_yes (h1 := ?_) | refine gc_no (h1 := ?_))))
  refine go_split 11 rfl (fun h1 => ?_) (fun h1 => ?_)
  · (repeat (first | refine gst (hk := ?_) | (show GO _ _ _ _ _ (⟨some _, none, _⟩ :: _) _; first | refine go_op (hk := ?_) | (refine go_nw (hk := ?_); intro u; try simp only [llc, lln, lna, lza]) | (refine go_np (hk := ?_); intro id)) | (show GO _ _ _ _ _ (⟨none, none, _⟩ :: _) _; refine go_st (hk := ?_)) | (show GO _ _ _ _ _ (⟨_, some _, _⟩ :: _) _; first | refine go_in (hk := ?_) | refine go_out (hk := ?_) | refine go_void (hk := ?_)) | (show GK _ _ _ _ (blockK _ _ _); refine gk_past rfl ?_) | (show GC _ _ _ _ _ (.cond _ _ _) _; first | refine gc_yes (h1 := ?_) | refine gc_no (h1 := ?_))))
    refine gk_ret rfl fun H' hH => ⟨?_, hH.leE⟩
    rw [if_neg fun h => h1 h.1]
    exact Own.nil _ _ _
  have hS := Decidable.not_not.1 h1
  (repeat (first | refine gst (hk := ?_) | (show GO _ _ _ _ _ (⟨some _, none, _⟩ :: _) _; first | refine go_op (hk := ?_) | (refine go_nw (hk := ?_); intro u; try simp only [llc, lln, lna, lza]) | (refine go_np (hk := ?_); intro id)) | (show GO _ _ _ _ _ (⟨none, none, _⟩ :: _) _; refine go_st (hk := ?_)) | (show GO _ _ _ _ _ (⟨_, some _, _⟩ :: _) _; first | refine go_in (hk := ?_) | refine go_out (hk := ?_) | refine go_void (hk := ?_)) | (show GK _ _ _ _ (blockK _ _ _); refine gk_past rfl ?_) | (show GC _ _ _ _ _ (.cond _ _ _) _; first | refine gc_yes (h1 := ?_) | refine gc_no (h1 := ?_))))
  refine go_split 15 rfl (fun h2 => ?_) (fun h2 => ?_)
  · (repeat (first | refine gst (hk := ?_) | (show GO _ _ _ _ _ (⟨some _, none, _⟩ :: _) _; first | refine go_op (hk := ?_) | (refine go_nw (hk := ?_); intro u; try simp only [llc, lln, lna, lza]) | (refine go_np (hk := ?_); intro id)) | (show GO _ _ _ _ _ (⟨none, none, _⟩ :: _) _; refine go_st (hk := ?_)) | (show GO _ _ _ _ _ (⟨_, some _, _⟩ :: _) _; first | refine go_in (hk := ?_) | refine go_out (hk := ?_) | refine go_void (hk := ?_)) | (show GK _ _ _ _ (blockK _ _ _); refine gk_past rfl ?_) | (show GC _ _ _ _ _ (.cond _ _ _) _; first | refine gc_yes (h1 := ?_) | refine gc_no (h1 := ?_))))
    refine gk_ret rfl fun H' hH => ⟨?_, hH.leE⟩
    rw [if_neg fun h => by have := h.2; omega]
    exact Own.nil _ _ _
  (repeat (first | refine gst (hk := ?_) | (show GO _ _ _ _ _ (⟨some _, none, _⟩ :: _) _; first | refine go_op (hk := ?_) | (refine go_nw (hk := ?_); intro u; try simp only [llc, lln, lna, lza]) | (refine go_np (hk := ?_); intro id)) | (show GO _ _ _ _ _ (⟨none, none, _⟩ :: _) _; refine go_st (hk := ?_)) | (show GO _ _ _ _ _ (⟨_, some _, _⟩ :: _) _; first | refine go_in (hk := ?_) | refine go_out (hk := ?_) | refine go_void (hk := ?_)) | (show GK _ _ _ _ (blockK _ _ _); refine gk_past rfl ?_) | (show GC _ _ _ _ _ (.cond _ _ _) _; first | refine gc_yes (h1 := ?_) | refine gc_no (h1 := ?_))))
  refine gc_cond rfl (fun h4 => ?_) (fun h4 => ?_)
  · (repeat (first | refine gst (hk := ?_) | (show GO _ _ _ _ _ (⟨some _, none, _⟩ :: _) _; first | refine go_op (hk := ?_) | (refine go_nw (hk := ?_); intro u; try simp only [llc, lln, lna, lza]) | (refine go_np (hk := ?_); intro id)) | (show GO _ _ _ _ _ (⟨none, none, _⟩ :: _) _; refine go_st (hk := ?_)) | (show GO _ _ _ _ _ (⟨_, some _, _⟩ :: _) _; first | refine go_in (hk := ?_) | refine go_out (hk := ?_) | refine go_void (hk := ?_)) | (show GK _ _ _ _ (blockK _ _ _); refine gk_past rfl ?_) | (show GC _ _ _ _ _ (.cond _ _ _) _; first | refine gc_yes (h1 := ?_) | refine gc_no (h1 := ?_))))
    refine gk_ret rfl fun H' hH => ⟨?_, hH.leE⟩
    rw [if_neg fun h => by have := h.2; omega]
    exact Own.nil _ _ _
  have hn := hS.2.2
  have hn1 := hS.2.1
  rw [if_pos (show FwOk xs r from ⟨hS, by omega, by omega⟩)]
  (repeat (first | refine gst (hk := ?_) | (show GO _ _ _ _ _ (⟨some _, none, _⟩ :: _) _; first | refine go_op (hk := ?_) | (refine go_nw (hk := ?_); intro u; try simp only [llc, lln, lna, lza]) | (refine go_np (hk := ?_); intro id)) | (show GO _ _ _ _ _ (⟨none, none, _⟩ :: _) _; refine go_st (hk := ?_)) | (show GO _ _ _ _ _ (⟨_, some _, _⟩ :: _) _; first | refine go_in (hk := ?_) | refine go_out (hk := ?_) | refine go_void (hk := ?_)) | (show GK _ _ _ _ (blockK _ _ _); refine gk_past rfl ?_) | (show GC _ _ _ _ _ (.cond _ _ _) _; first | refine gc_yes (h1 := ?_) | refine gc_no (h1 := ?_))))
  refine gc_upv xs.length (fun i v => [(0, a), (1, .int .i64 r), (5, v), (6, .int .i64 (stG xs r i : Int)), (21, .int .i64 (xs.length : Int)), (22, .int .i64 (i : Int))]) (fun i v => [.rwI v (grZ xs r (max i 1)).length (grZ xs r (max i 1)), .roI a xs.length xs]) u (hS := by show Sub _ [.rwI u 1 [0], .roI a xs.length xs]; exact Sub.auto) (hb := ?_)
  intro i v hi I ν m hk
  (repeat (first | refine gst (hk := ?_) | (show GO _ _ _ _ _ (⟨some _, none, _⟩ :: _) _; first | refine go_op (hk := ?_) | (refine go_nw (hk := ?_); intro u; try simp only [llc, lln, lna, lza]) | (refine go_np (hk := ?_); intro id)) | (show GO _ _ _ _ _ (⟨none, none, _⟩ :: _) _; refine go_st (hk := ?_)) | (show GO _ _ _ _ _ (⟨_, some _, _⟩ :: _) _; first | refine go_in (hk := ?_) | refine go_out (hk := ?_) | refine go_void (hk := ?_)) | (show GK _ _ _ _ (blockK _ _ _); refine gk_past rfl ?_) | (show GC _ _ _ _ _ (.cond _ _ _) _; first | refine gc_yes (h1 := ?_) | refine gc_no (h1 := ?_))))
  refine gc_cond rfl (fun h => ?_) (fun h => ?_)
  · have hk := hk (by omega)
    obtain ⟨s, t, g1, g2, g3, g4⟩ := gr_step (xs := xs) (r := r) (by omega) i
    have es : stG xs r i = s := by unfold stG; rw [g1]; rfl
    rw [es]
    have gl : (grZ xs r (max i 1)).length ≤ 8 := by rw [grZ_len]; have := gr_len xs r (max i 1); omega
    have hwl := win_len2 (xs := xs) (i := s) (k := i + 1) (by omega)
    (repeat (first | refine gst (hk := ?_) | (show GO _ _ _ _ _ (⟨some _, none, _⟩ :: _) _; first | refine go_op (hk := ?_) | (refine go_nw (hk := ?_); intro u; try simp only [llc, lln, lna, lza]) | (refine go_np (hk := ?_); intro id)) | (show GO _ _ _ _ _ (⟨none, none, _⟩ :: _) _; refine go_st (hk := ?_)) | (show GO _ _ _ _ _ (⟨_, some _, _⟩ :: _) _; first | refine go_in (hk := ?_) | refine go_out (hk := ?_) | refine go_void (hk := ?_)) | (show GK _ _ _ _ (blockK _ _ _); refine gk_past rfl ?_) | (show GC _ _ _ _ _ (.cond _ _ _) _; first | refine gc_yes (h1 := ?_) | refine gc_no (h1 := ?_))))
    refine go_new rfl (stp_slI (l := s) (h := i + 1) rfl (by exact Sel.auto) (.inr ⟨_, rfl, rfl⟩) (.inr ⟨_, rfl, rfl⟩) (by omega)) ?_
    intro w
    rw [show (xs.drop s).take (i + 1 - s) = winL xs s (i + 1) from rfl, ← hwl]
    refine go_callp rfl code_impl_roomOf.callable (fun H hH => roomOf_ok (hH.ints (by exact Has.auto)) (hS.win s (i + 1)) (by omega) (by omega)) ?_
    rw [rg_win (by omega) (by omega)]
    (repeat (first | refine gst (hk := ?_) | (show GO _ _ _ _ _ (⟨some _, none, _⟩ :: _) _; first | refine go_op (hk := ?_) | (refine go_nw (hk := ?_); intro u; try simp only [llc, lln, lna, lza]) | (refine go_np (hk := ?_); intro id)) | (show GO _ _ _ _ _ (⟨none, none, _⟩ :: _) _; refine go_st (hk := ?_)) | (show GO _ _ _ _ _ (⟨_, some _, _⟩ :: _) _; first | refine go_in (hk := ?_) | refine go_out (hk := ?_) | refine go_void (hk := ?_)) | (show GK _ _ _ _ (blockK _ _ _); refine gk_past rfl ?_) | (show GC _ _ _ _ _ (.cond _ _ _) _; first | refine gc_yes (h1 := ?_) | refine gc_no (h1 := ?_))))
    refine gc_cond rfl (fun h5 => ?_) (fun h5 => ?_)
    · have e1 : grZ xs r (max (i + 1) 1) = grZ xs r (max i 1) ++ [(i : Int)] := by unfold grZ; rw [g3 h5, g1]; simp
      have e2 : stG xs r (i + 1) = i := by unfold stG; rw [g3 h5]; rfl
      rw [e1, e2] at hk
      simp only [List.length_append, List.length_singleton] at hk
      (repeat (first | refine gst (hk := ?_) | (show GO _ _ _ _ _ (⟨some _, none, _⟩ :: _) _; first | refine go_op (hk := ?_) | (refine go_nw (hk := ?_); intro u; try simp only [llc, lln, lna, lza]) | (refine go_np (hk := ?_); intro id)) | (show GO _ _ _ _ _ (⟨none, none, _⟩ :: _) _; refine go_st (hk := ?_)) | (show GO _ _ _ _ _ (⟨_, some _, _⟩ :: _) _; first | refine go_in (hk := ?_) | refine go_out (hk := ?_) | refine go_void (hk := ?_)) | (show GK _ _ _ _ (blockK _ _ _); refine gk_past rfl ?_) | (show GC _ _ _ _ _ (.cond _ _ _) _; first | refine gc_yes (h1 := ?_) | refine gc_no (h1 := ?_))))
      exact gk_next (hk u)
    · have e1 : grZ xs r (max (i + 1) 1) = grZ xs r (max i 1) := by unfold grZ; rw [g4 h5, g1]
      have e2 : stG xs r (i + 1) = s := by unfold stG; rw [g4 h5]; rfl
      rw [e1, e2] at hk
      (repeat (first | refine gst (hk := ?_) | (show GO _ _ _ _ _ (⟨some _, none, _⟩ :: _) _; first | refine go_op (hk := ?_) | (refine go_nw (hk := ?_); intro u; try simp only [llc, lln, lna, lza]) | (refine go_np (hk := ?_); intro id)) | (show GO _ _ _ _ _ (⟨none, none, _⟩ :: _) _; refine go_st (hk := ?_)) | (show GO _ _ _ _ _ (⟨_, some _, _⟩ :: _) _; first | refine go_in (hk := ?_) | refine go_out (hk := ?_) | refine go_void (hk := ?_)) | (show GK _ _ _ _ (blockK _ _ _); refine gk_past rfl ?_) | (show GC _ _ _ _ _ (.cond _ _ _) _; first | refine gc_yes (h1 := ?_) | refine gc_no (h1 := ?_))))
      exact gk_next (hk v)
  · obtain rfl : i = xs.length := by omega
    rw [show max xs.length 1 = xs.length by omega]
    (repeat (first | refine gst (hk := ?_) | (show GO _ _ _ _ _ (⟨some _, none, _⟩ :: _) _; first | refine go_op (hk := ?_) | (refine go_nw (hk := ?_); intro u; try simp only [llc, lln, lna, lza]) | (refine go_np (hk := ?_); intro id)) | (show GO _ _ _ _ _ (⟨none, none, _⟩ :: _) _; refine go_st (hk := ?_)) | (show GO _ _ _ _ _ (⟨_, some _, _⟩ :: _) _; first | refine go_in (hk := ?_) | refine go_out (hk := ?_) | refine go_void (hk := ?_)) | (show GK _ _ _ _ (blockK _ _ _); refine gk_past rfl ?_) | (show GC _ _ _ _ _ (.cond _ _ _) _; first | refine gc_yes (h1 := ?_) | refine gc_no (h1 := ?_))))
    exact gk_ret rfl fun H' hH => hH.give .head

def MpO (ob : Nat → Option OB) (id : Nat) (es : List ME) (clk : Nat) : Prop := ∃ o, ob id = some o ∧ o.mo = some (.map es clk)

def seo (ob : Nat → Option OB) (id : Nat) (o : OB) : Nat → Option OB := fun i => if i = id then some o else ob i

theorem mp_other {ob : Nat → Option OB} {id j : Nat} {es : List ME} {clk : Nat} {o : OB} (h : MpO ob j es clk) (hn : j ≠ id) : MpO (seo ob id o) j es clk := by
  obtain ⟨x, h1, h2⟩ := h
  exact ⟨x, by simp only [seo]; rw [if_neg hn]; exact h1, h2⟩

/-- what was there is there, but for some -/
def ExO (ob0 ob : Nat → Option OB) (I : List Nat) : Prop := ∀ j o, j ∉ I → ob0 j = some o → ob j = some o

theorem ExO.refl (ob : Nat → Option OB) (I : List Nat) : ExO ob ob I := fun _ _ _ h => h

theorem ExO.new {ob0 ob : Nat → Option OB} {I : List Nat} (h : ExO ob0 ob I) {id : Nat} (hn : ob id = none) (o : OB) : ExO ob0 (seo ob id o) I := fun j p h1 h2 => by
  have h3 := h j p h1 h2
  have : j ≠ id := by rintro rfl; rw [hn] at h3; cases h3
  simp only [seo]; rw [if_neg this]; exact h3

structure CE where
  p : Nat
  v : Rat
  b : Nat

def ceM (e : CE) : ME := ⟨.int .i64 (e.p : Int), frV e.v, e.b⟩

def CutsOk (L : List CE) (clk : Nat) : Prop := (L.map CE.b).Nodup ∧ (∀ e ∈ L, e.b < clk) ∧ (L.map CE.p).Nodup

theorem CutsOk.sub {L M : List CE} {clk : Nat} (h : CutsOk L clk) (hs : M.Sublist L) : CutsOk M clk := ⟨(hs.map _).nodup h.1, fun e he => h.2.1 e (hs.subset he), (hs.map _).nodup h.2.2⟩

/-- the stamps that have come -/
def GoneC (L : List CE) (seen : List Nat) : Prop := seen.Nodup ∧ ∀ b ∈ seen, b ∈ L.map CE.b

theorem GoneC.nil (L : List CE) : GoneC L [] := ⟨List.nodup_nil, by simp⟩

theorem GoneC.le {L : List CE} {seen : List Nat} (h : GoneC L seen) : seen.length ≤ L.length := by
  have := h.1.length_le_of_subset (fun b hb => h.2 b hb : seen ⊆ L.map CE.b)
  rwa [List.length_map] at this

theorem GoneC.snoc {L : List CE} {seen : List Nat} (h : GoneC L seen) {e : CE} (he : e ∈ L) (hn : e.b ∉ seen) : GoneC L (seen ++ [e.b]) := by
  refine ⟨?_, fun b hb => ?_⟩
  · rw [List.nodup_append]
    exact ⟨h.1, by simp, fun a ha b hb => by simp only [List.mem_singleton] at hb; subst hb; exact fun h => hn (h ▸ ha)⟩
  · rcases List.mem_append.1 hb with hb | hb
    · exact h.2 b hb
    · simp only [List.mem_singleton] at hb; subst hb; exact List.mem_map.2 ⟨e, he, rfl⟩

theorem GoneC.lt {L : List CE} {seen : List Nat} (h : GoneC L seen) {e : CE} (he : e ∈ L) (hn : e.b ∉ seen) : L.length - (seen ++ [e.b]).length < L.length - seen.length := by
  have := (h.snoc he hn).le
  rw [List.length_append, List.length_singleton] at this ⊢
  omega

/-- the ways that are not beaten, of some -/
def FrontC (L : List CE) (S : Nat → Rat → Prop) : Prop := (∀ e ∈ L, S e.p e.v) ∧ (∀ p v, S p v → ∃ e ∈ L, e.p ≤ p ∧ e.v ≤ v) ∧ ∀ e ∈ L, ∀ e' ∈ L, e.p < e'.p → e'.v < e.v

def SC (c : Nat → Nat → Rat) (i q : Nat) (v : Rat) : Prop := (i = 0 ∧ q = 0 ∧ v = 0) ∨ Cuts (· + ·) c q 0 i v

def GoodM (c : Nat → Nat → Rat) (ob : Nat → Option OB) (m i : Nat) : Prop := ∃ L clk, MpO ob m (L.map ceM) clk ∧ CutsOk L clk ∧ FrontC L (SC c i)

theorem GoodM.seo {c : Nat → Nat → Rat} {ob : Nat → Option OB} {m i id : Nat} {o : OB} (h : GoodM c ob m i) (hn : m ≠ id) : GoodM c (seo ob id o) m i := by
  obtain ⟨L, clk, h1, h2⟩ := h
  exact ⟨L, clk, mp_other h1 hn, h2⟩

theorem bit_topq : ∀ (m : Nat), m ≤ 8 → ∀ (p : Nat), p < 2 ^ m → ∀ (i : Nat), i ≤ m → ((p + 2 ^ m) / 2 ^ i % 2 = 1 ↔ p / 2 ^ i % 2 = 1 ∨ i = m) := by decide +kernel

/-- the cuts behind the places of a set: the last cut, and the pieces -/
def bcS (q : Nat) : Nat → Nat × List (Nat × Nat)
  | 0 => (0, [])
  | i + 1 => if q / 2 ^ i % 2 = 1 then (i + 1, (bcS q i).2 ++ [((bcS q i).1, i + 1)]) else bcS q i

theorem bcS_le (q : Nat) : ∀ i, (bcS q i).1 ≤ i ∧ (bcS q i).2.length ≤ i
  | 0 => ⟨Nat.le_refl _, Nat.le_refl _⟩
  | i + 1 => by
    have ih := bcS_le q i
    rw [bcS]; split
    · exact ⟨Nat.le_refl _, by simp; omega⟩
    · omega

theorem bcS_mem (q : Nat) : ∀ i, ∀ z ∈ (bcS q i).2, z.1 < z.2 ∧ z.2 ≤ i
  | 0, z, h => by simp [bcS] at h
  | i + 1, z, h => by
    have ih := bcS_mem q i
    rw [bcS] at h; split at h
    · rcases List.mem_append.1 h with h | h
      · have := ih z h; omega
      · rw [List.mem_singleton] at h; subst h
        have := (bcS_le q i).1
        exact ⟨by dsimp only; omega, Nat.le_refl _⟩
    · have := ih z h; omega

theorem bcS_congr {q q' : Nat} : ∀ {i : Nat}, (∀ j, j < i → (q / 2 ^ j % 2 = 1 ↔ q' / 2 ^ j % 2 = 1)) → bcS q i = bcS q' i
  | 0, _ => rfl
  | i + 1, h => by
    have ih := bcS_congr (i := i) fun j hj => h j (by omega)
    rw [bcS, bcS, ih]
    by_cases hb : q / 2 ^ i % 2 = 1
    · rw [if_pos hb, if_pos ((h i (by omega)).1 hb)]
    · rw [if_neg hb, if_neg fun g => hb ((h i (by omega)).2 g)]

theorem bcS_stay {q : Nat} {i : Nat} : ∀ d, (∀ j, i ≤ j → j < i + d → ¬ q / 2 ^ j % 2 = 1) → bcS q (i + d) = bcS q i
  | 0, _ => rfl
  | d + 1, h => by
    rw [show i + (d + 1) = (i + d) + 1 by omega, bcS, if_neg (h (i + d) (by omega) (by omega))]
    exact bcS_stay d fun j h1 h2 => h j h1 (by omega)

/-- what pieces cost together -/
def smC {α : Type} (op : α → α → α) (z : α) (c : Nat → Nat → α) (L : List (Nat × Nat)) : α := L.foldl (fun v q => op v (c q.1 q.2)) z

theorem smC_snoc {α : Type} {op : α → α → α} {z : α} {c : Nat → Nat → α} {L : List (Nat × Nat)} {x : Nat × Nat} : smC op z c (L ++ [x]) = op (smC op z c L) (c x.1 x.2) := by
  unfold smC; rw [List.foldl_append]; rfl

theorem bcS_cuts {α : Type} {op : α → α → α} {z : α} {c : Nat → Nat → α} (hz : ∀ s k, s < k → op z (c s k) = c s k) (q : Nat) : ∀ i, ((bcS q i).1 = 0 ∧ (bcS q i).2 = []) ∨ (0 < (bcS q i).1 ∧ Cuts op c (bcS q i).2.length 0 (bcS q i).1 (smC op z c (bcS q i).2))
  | 0 => .inl ⟨rfl, rfl⟩
  | i + 1 => by
    have ih := bcS_cuts hz q i
    have hle := (bcS_le q i).1
    rw [bcS]; split
    · refine .inr ⟨by dsimp only; omega, ?_⟩
      dsimp only
      rw [smC_snoc, List.length_append, List.length_singleton]
      rcases ih with ⟨h1, h2⟩ | ⟨h1, h2⟩
      · rw [h1, h2]
        rw [show smC op z c [] = z from rfl, hz 0 (i + 1) (by omega)]
        exact .one (by omega)
      · exact .snoc h2 (by omega)
    · exact ih

theorem cuts_bcS {α : Type} {op : α → α → α} {z : α} {c : Nat → Nat → α} (hz : ∀ s k, s < k → op z (c s k) = c s k) {q k : Nat} {v : α} (h : Cuts op c q 0 k v) : k ≤ 8 → ∃ p, p < 2 ^ (k - 1) ∧ (bcS (p + 2 ^ (k - 1)) k).1 = k ∧ (bcS (p + 2 ^ (k - 1)) k).2.length = q ∧ smC op z c (bcS (p + 2 ^ (k - 1)) k).2 = v := by
  generalize h0 : (0 : Nat) = i0 at h
  induction h with
  | @one i k h =>
    subst h0
    intro hk
    have hb := bit_topq (k - 1) (by omega) 0 (Nat.pow_pos (by omega))
    have e0 : bcS (0 + 2 ^ (k - 1)) (k - 1) = (0, []) := by
      have := bcS_stay (q := 0 + 2 ^ (k - 1)) (i := 0) (k - 1) fun j _ hj hc => by
        rcases (hb j (by omega)).1 hc with h | h
        · simp at h
        · omega
      rw [Nat.zero_add (k - 1)] at this
      exact this
    have e1 : bcS (0 + 2 ^ (k - 1)) k = (k, [(0, k)]) := by
      rw [show k = (k - 1) + 1 by omega, bcS, show k - 1 + 1 - 1 = k - 1 by omega, e0, if_pos ((hb (k - 1) (Nat.le_refl _)).2 (.inr rfl))]
      rfl
    refine ⟨0, Nat.pow_pos (by omega), ?_⟩
    rw [e1]
    exact ⟨rfl, rfl, hz 0 k h⟩
  | @snoc q i m k v h hk ih =>
    subst h0
    intro hk8
    obtain ⟨p, h1, h2, h3, h4⟩ := ih rfl (by omega)
    have hm := h.lt
    have hb := bit_topq (m - 1) (by omega) p h1
    have hpm : p + 2 ^ (m - 1) < 2 ^ m := by
      have : 2 ^ m = 2 ^ (m - 1) * 2 := by rw [← Nat.pow_succ]; congr 1; omega
      omega
    have hle : 2 ^ m ≤ 2 ^ (k - 1) := Nat.pow_le_pow_right (by omega) (by omega)
    have hb2 := bit_topq (k - 1) (by omega) (p + 2 ^ (m - 1)) (by omega)
    have e1 : bcS (p + 2 ^ (m - 1) + 2 ^ (k - 1)) m = bcS (p + 2 ^ (m - 1)) m := bcS_congr fun j hj => by
      rw [hb2 j (by omega)]
      exact ⟨fun h => h.resolve_right (by omega), .inl⟩
    have e2 : bcS (p + 2 ^ (m - 1) + 2 ^ (k - 1)) (k - 1) = bcS (p + 2 ^ (m - 1)) m := by
      have := bcS_stay (q := p + 2 ^ (m - 1) + 2 ^ (k - 1)) (i := m) (k - 1 - m) fun j h5 h6 hc => by
        rcases (hb2 j (by omega)).1 hc with h7 | h7
        · have : 2 ^ m ≤ 2 ^ j := Nat.pow_le_pow_right (by omega) h5
          rw [Nat.div_eq_of_lt (by omega)] at h7
          simp at h7
        · omega
      rw [show m + (k - 1 - m) = k - 1 by omega, e1] at this
      exact this
    have e3 : bcS (p + 2 ^ (m - 1) + 2 ^ (k - 1)) k = (k, (bcS (p + 2 ^ (m - 1)) m).2 ++ [(m, k)]) := by
      rw [show k = (k - 1) + 1 by omega, bcS, show k - 1 + 1 - 1 = k - 1 by omega, e2, if_pos ((hb2 (k - 1) (Nat.le_refl _)).2 (.inr rfl)), h2]
    refine ⟨p + 2 ^ (m - 1), by omega, ?_⟩
    rw [e3]
    refine ⟨rfl, ?_, ?_⟩
    · rw [List.length_append, h3]; rfl
    · rw [smC_snoc, h4]

/-- the pieces of a set of places -/
def pcS (n p : Nat) : List (Nat × Nat) := (bcS (p + 2 ^ (n - 1)) n).2

theorem pcS_cuts {α : Type} {op : α → α → α} {z : α} {c : Nat → Nat → α} (hz : ∀ s k, s < k → op z (c s k) = c s k) {n p : Nat} (hn : 1 ≤ n) (hn8 : n ≤ 8) (hp : p < 2 ^ (n - 1)) : Cuts op c (pcS n p).length 0 n (smC op z c (pcS n p)) := by
  have hb := bit_topq (n - 1) (by omega) p hp (n - 1) (Nat.le_refl _)
  have e : bcS (p + 2 ^ (n - 1)) n = (n, (bcS (p + 2 ^ (n - 1)) (n - 1)).2 ++ [((bcS (p + 2 ^ (n - 1)) (n - 1)).1, n)]) := by
    conv => lhs; rw [show n = (n - 1) + 1 by omega, bcS, show n - 1 + 1 - 1 = n - 1 by omega, if_pos (hb.2 (.inr rfl))]
    rw [show n - 1 + 1 = n by omega]
  rcases bcS_cuts hz (p + 2 ^ (n - 1)) n with ⟨h1, _⟩ | ⟨_, h2⟩
  · rw [e] at h1; dsimp only at h1; omega
  · rw [e] at h2; dsimp only at h2
    unfold pcS; rw [e]; exact h2

theorem cuts_pcS {α : Type} {op : α → α → α} {z : α} {c : Nat → Nat → α} (hz : ∀ s k, s < k → op z (c s k) = c s k) {q n : Nat} {v : α} (h : Cuts op c q 0 n v) (hn8 : n ≤ 8) : ∃ p, p < 2 ^ (n - 1) ∧ (pcS n p).length = q ∧ smC op z c (pcS n p) = v := by
  obtain ⟨p, h1, _, h2, h3⟩ := cuts_bcS hz h hn8
  exact ⟨p, h1, h2, h3⟩

/-- windows with two bounds -/
def wiV : AV → Nat → Nat → AV
  | .slice id off _ cap es, l, h => .slice id (off + l * es) (h - l) (cap.map (· - l)) es
  | v, _, _ => v

theorem wiV_bid {v : AV} {l h j : Nat} (hj : (wiV v l h).bid = some j) : v.bid = some j := by
  cases v <;> first | exact hj | (simp [wiV, AV.bid] at hj; done)

theorem stp_sl2 {A : Heap} {X : List Nat} {E : List (Nat × AV)} {S : Sig} {x lo hi : MX} {v : AV} {k n l h : Nat} {cs : List AV} (hx : evE E x = some v) (hl : evE E lo = some (.int .i64 (l : Int))) (hh : evE E hi = some (.int .i64 (h : Int))) (hs : Has S v k n cs) (hb : l ≤ h ∧ h ≤ n) :
    Stp A X E S (.sl x (some lo) (some hi) none k) (Is (wiV v l h) S) :=
  stp_pure fun τ H m nid hE hS => by
    have hv := hS.valsA hs
    have b1 : ∀ d, bnd n (some (AV.int .i64 (h : Int))) d = some h := by
      intro d; simp only [bnd]; rw [if_pos (by omega)]; simp
    have b3 : ∀ d, bnd h (some (AV.int .i64 (l : Int))) d = some l := by
      intro d; simp only [bnd]; rw [if_pos (by omega)]; simp
    simp only [mstep, ev_of hE hx, Option.map_some, ev_of hE hl, ev_of hE hh, Option.map_none, msl, hv.len, b1, b3, show bnd n none n = some n from rfl]
    cases v with
    | slice id off n' cap es =>
      have e2 : es = k := by
        rcases hv.esn with h | h
        · cases h
        · simpa [AV.es] using h
      subst e2
      simp [wiV]
    | nilSlice => rfl
    | _ => exact absurd hv.sl (by simp [AV.isSlice])

theorem ints_wi {H : Heap} {v : AV} {l h : Nat} {xs : List Int} (hv : Ints H v xs) (hl : l ≤ h ∧ h ≤ xs.length) : Ints H (wiV v l h) (winL xs l h) := by
  have hwl := win_len2 (xs := xs) (i := l) hl.2
  cases v with
  | slice id off n' cap es =>
    have e1 : n' = xs.length := hv.len
    have e2 : es = 1 := by
      rcases hv.esn with h | h
      · cases h
      · simpa [AV.es] using h
    subst e1; subst e2
    refine ⟨rfl, by rw [hwl]; rfl, .inr rfl, by rw [Nat.mul_one, Rx.ints, List.length_map], ?_, fun j hj => hv.bid j (wiV_bid hj)⟩
    have hr := hv.row
    simp only [wiV, Heap.row] at hr ⊢
    by_cases h0 : h - l = 0
    · rw [if_pos h0, List.eq_nil_of_length_eq_zero (hwl.trans h0)]; rfl
    · rw [if_neg (by omega)] at hr
      rw [if_neg h0]
      simp only [Heap.read] at hr ⊢
      split at hr
      · rename_i b hb
        split at hr
        · rename_i h1
          simp only [Option.some.injEq] at hr
          rw [if_pos (by omega)]
          unfold winL
          simp only [Nat.mul_one] at hr ⊢
          rw [Rx.ints, List.map_take, List.map_drop, ← Rx.ints, ← hr, List.drop_take, List.drop_drop, List.take_take, Nat.min_eq_left (by omega)]
        · cases hr
      · cases hr
  | nilSlice =>
    have e1 : 0 = xs.length := hv.len
    have : xs = [] := List.eq_nil_of_length_eq_zero e1.symm
    subst this
    have : winL [] l h = [] := by simp [winL]
    rw [this]; exact hv
  | _ => exact absurd hv.sl (by simp [AV.isSlice])

theorem wi_one {H : Heap} {v : AV} {l h : Nat} {xs : List Int} (hv : Ints H v xs) : OneC (wiV v l h) := by
  cases v with
  | slice id off n' cap es => exact ⟨rfl, rfl⟩
  | nilSlice => exact ⟨rfl, rfl⟩
  | _ => exact absurd hv.sl (by simp [AV.isSlice])

abbrev rowsC (u a : AV) (L : List (Nat × Nat)) : Ch := ⟨.rw, u, 1, L.length, L.map fun q => wiV a q.1 q.2⟩

theorem piecesBehind_ok {A : Heap} {X : List Nat} {S : Sig} {H : Heap} {a : AV} {xs : List Int} {p : Nat} (hS : SOk A X S H.size H) (ha : Ints H a xs) (hn : 1 ≤ xs.length) (hn8 : xs.length ≤ 8) (hp : p < 2 ^ (xs.length - 1)) :
    ACalls Try.prog fn_impl_piecesBehind [a, .int .u64 (p : Int)] H fun r H' => ∃ g : AV, r = g ∧ SOk A X ([rowsC g a (pcS xs.length p)] ++ S) H'.size H' ∧ True := by
  have ho : ∀ l h, OneC (wiV a l h) := fun l h => wi_one ha
  have hb := bit_topq (xs.length - 1) (by omega) p hp
  refine code_impl_piecesBehind.gon (R := [.roI a xs.length xs]) (V := fun g => g) (T := fun g => [rowsC g a (pcS xs.length p)]) (Φ := fun _ => True) hS ⟨⟨rfl, ha⟩, trivial⟩ (fun g => rfl) (by simp) ?_
  unfold mc_impl_piecesBehind
  unfold pcS
  (repeat (first | refine gst (hk := ?_) | (show GO _ _ _ _ _ (⟨some _, none, .call _ _⟩ :: _) _; first | (refine go_callp rfl code_impl_places_has.callable (fun H hH => has_ok (by omega)) ?_)) | (show GO _ _ _ _ _ (⟨some _, none, _⟩ :: _) _; first | refine go_op (hk := ?_) | (refine go_nw (hk := ?_); intro u; try simp only [llc, lln, lna, lza]) | (refine go_np (hk := ?_); intro id)) | (show GO _ _ _ _ _ (⟨none, none, _⟩ :: _) _; refine go_st (hk := ?_)) | (show GO _ _ _ _ _ (⟨_, some _, _⟩ :: _) _; first | refine go_in (hk := ?_) | refine go_out (hk := ?_) | refine go_void (hk := ?_)) | (show GK _ _ _ _ (blockK _ _ _); refine gk_past rfl ?_) | (show GC _ _ _ _ _ (.cond _ _ _) _; first | refine gc_yes (h1 := ?_) | refine gc_no (h1 := ?_))))
  refine gc_nilK 1 ?_
  generalize hq : p + 2 ^ (xs.length - 1) = q at *
  refine gc_upv xs.length (fun i v => [(0, a), (1, .int .u64 (p : Int)), (5, v), (6, .int .i64 ((bcS q i).1 : Int)), (9, .int .i64 (xs.length : Int)), (10, .int .i64 (i : Int))]) (fun i v => [rowsC v a (bcS q i).2, .roI a xs.length xs]) .nilSlice (hb := ?_)
  intro i v hi I ν m hk
  (repeat (first | refine gst (hk := ?_) | (show GO _ _ _ _ _ (⟨some _, none, .call _ _⟩ :: _) _; first | (refine go_callp rfl code_impl_places_has.callable (fun H hH => has_ok (by omega)) ?_)) | (show GO _ _ _ _ _ (⟨some _, none, _⟩ :: _) _; first | refine go_op (hk := ?_) | (refine go_nw (hk := ?_); intro u; try simp only [llc, lln, lna, lza]) | (refine go_np (hk := ?_); intro id)) | (show GO _ _ _ _ _ (⟨none, none, _⟩ :: _) _; refine go_st (hk := ?_)) | (show GO _ _ _ _ _ (⟨_, some _, _⟩ :: _) _; first | refine go_in (hk := ?_) | refine go_out (hk := ?_) | refine go_void (hk := ?_)) | (show GK _ _ _ _ (blockK _ _ _); refine gk_past rfl ?_) | (show GC _ _ _ _ _ (.cond _ _ _) _; first | refine gc_yes (h1 := ?_) | refine gc_no (h1 := ?_))))
  refine gc_cond rfl (fun h => ?_) (fun h => ?_)
  · have hk := hk (by omega)
    have hle := bcS_le q i
    have cut : q / 2 ^ i % 2 = 1 → bcS q (i + 1) = (i + 1, (bcS q i).2 ++ [((bcS q i).1, i + 1)]) := fun h => if_pos h
    have no : ¬ q / 2 ^ i % 2 = 1 → bcS q (i + 1) = bcS q i := fun h => if_neg h
    have hbi := hb i (by omega)
    (repeat (first | refine gst (hk := ?_) | (show GO _ _ _ _ _ (⟨some _, none, .call _ _⟩ :: _) _; first | (refine go_callp rfl code_impl_places_has.callable (fun H hH => has_ok (by omega)) ?_)) | (show GO _ _ _ _ _ (⟨some _, none, _⟩ :: _) _; first | refine go_op (hk := ?_) | (refine go_nw (hk := ?_); intro u; try simp only [llc, lln, lna, lza]) | (refine go_np (hk := ?_); intro id)) | (show GO _ _ _ _ _ (⟨none, none, _⟩ :: _) _; refine go_st (hk := ?_)) | (show GO _ _ _ _ _ (⟨_, some _, _⟩ :: _) _; first | refine go_in (hk := ?_) | refine go_out (hk := ?_) | refine go_void (hk := ?_)) | (show GK _ _ _ _ (blockK _ _ _); refine gk_past rfl ?_) | (show GC _ _ _ _ _ (.cond _ _ _) _; first | refine gc_yes (h1 := ?_) | refine gc_no (h1 := ?_))))
    refine go_split 16 rfl (fun h1 => ?_) (fun h1 => ?_)
    · rw [cut (hbi.2 (.inl h1))] at hk
      simp only [rowsC, List.length_append, List.length_singleton, List.map_append, List.map_cons, List.map_nil] at hk
      (repeat (first | refine gst (hk := ?_) | (show GO _ _ _ _ _ (⟨some _, none, .call _ _⟩ :: _) _; first | (refine go_callp rfl code_impl_places_has.callable (fun H hH => has_ok (by omega)) ?_)) | (show GO _ _ _ _ _ (⟨some _, none, _⟩ :: _) _; first | refine go_op (hk := ?_) | (refine go_nw (hk := ?_); intro u; try simp only [llc, lln, lna, lza]) | (refine go_np (hk := ?_); intro id)) | (show GO _ _ _ _ _ (⟨none, none, _⟩ :: _) _; refine go_st (hk := ?_)) | (show GO _ _ _ _ _ (⟨_, some _, _⟩ :: _) _; first | refine go_in (hk := ?_) | refine go_out (hk := ?_) | refine go_void (hk := ?_)) | (show GK _ _ _ _ (blockK _ _ _); refine gk_past rfl ?_) | (show GC _ _ _ _ _ (.cond _ _ _) _; first | refine gc_yes (h1 := ?_) | refine gc_no (h1 := ?_))))
      refine go_is rfl (stp_sl2 (l := (bcS q i).1) (h := i + 1) rfl rfl rfl (by exact Has.auto) (by omega)) ?_
      refine go_new rfl (stp_bslv rfl (ho _ _).1 (ho _ _).2) ?_
      intro w
      refine go_new rfl (stp_app (v := v) (es := 1) (n := (bcS q i).2.length) (m' := 1) (cs := (bcS q i).2.map fun q => wiV a q.1 q.2) (news := [wiV a (bcS q i).1 (i + 1)]) rfl rfl (by exact Sel.auto) .rw (by simp [(ho _ _).2]) (by omega) (by omega) (by omega)) ?_
      intro v'
      (repeat (first | refine gst (hk := ?_) | (show GO _ _ _ _ _ (⟨some _, none, .call _ _⟩ :: _) _; first | (refine go_callp rfl code_impl_places_has.callable (fun H hH => has_ok (by omega)) ?_)) | (show GO _ _ _ _ _ (⟨some _, none, _⟩ :: _) _; first | refine go_op (hk := ?_) | (refine go_nw (hk := ?_); intro u; try simp only [llc, lln, lna, lza]) | (refine go_np (hk := ?_); intro id)) | (show GO _ _ _ _ _ (⟨none, none, _⟩ :: _) _; refine go_st (hk := ?_)) | (show GO _ _ _ _ _ (⟨_, some _, _⟩ :: _) _; first | refine go_in (hk := ?_) | refine go_out (hk := ?_) | refine go_void (hk := ?_)) | (show GK _ _ _ _ (blockK _ _ _); refine gk_past rfl ?_) | (show GC _ _ _ _ _ (.cond _ _ _) _; first | refine gc_yes (h1 := ?_) | refine gc_no (h1 := ?_))))
      exact gk_next (hk v')
    · (repeat (first | refine gst (hk := ?_) | (show GO _ _ _ _ _ (⟨some _, none, .call _ _⟩ :: _) _; first | (refine go_callp rfl code_impl_places_has.callable (fun H hH => has_ok (by omega)) ?_)) | (show GO _ _ _ _ _ (⟨some _, none, _⟩ :: _) _; first | refine go_op (hk := ?_) | (refine go_nw (hk := ?_); intro u; try simp only [llc, lln, lna, lza]) | (refine go_np (hk := ?_); intro id)) | (show GO _ _ _ _ _ (⟨none, none, _⟩ :: _) _; refine go_st (hk := ?_)) | (show GO _ _ _ _ _ (⟨_, some _, _⟩ :: _) _; first | refine go_in (hk := ?_) | refine go_out (hk := ?_) | refine go_void (hk := ?_)) | (show GK _ _ _ _ (blockK _ _ _); refine gk_past rfl ?_) | (show GC _ _ _ _ _ (.cond _ _ _) _; first | refine gc_yes (h1 := ?_) | refine gc_no (h1 := ?_))))
      refine gc_cond rfl (fun h2 => ?_) (fun h2 => ?_)
      · rw [cut (hbi.2 (.inr (by omega)))] at hk
        simp only [rowsC, List.length_append, List.length_singleton, List.map_append, List.map_cons, List.map_nil] at hk
        (repeat (first | refine gst (hk := ?_) | (show GO _ _ _ _ _ (⟨some _, none, .call _ _⟩ :: _) _; first | (refine go_callp rfl code_impl_places_has.callable (fun H hH => has_ok (by omega)) ?_)) | (show GO _ _ _ _ _ (⟨some _, none, _⟩ :: _) _; first | refine go_op (hk := ?_) | (refine go_nw (hk := ?_); intro u; try simp only [llc, lln, lna, lza]) | (refine go_np (hk := ?_); intro id)) | (show GO _ _ _ _ _ (⟨none, none, _⟩ :: _) _; refine go_st (hk := ?_)) | (show GO _ _ _ _ _ (⟨_, some _, _⟩ :: _) _; first | refine go_in (hk := ?_) | refine go_out (hk := ?_) | refine go_void (hk := ?_)) | (show GK _ _ _ _ (blockK _ _ _); refine gk_past rfl ?_) | (show GC _ _ _ _ _ (.cond _ _ _) _; first | refine gc_yes (h1 := ?_) | refine gc_no (h1 := ?_))))
        refine go_is rfl (stp_sl2 (l := (bcS q i).1) (h := i + 1) rfl rfl rfl (by exact Has.auto) (by omega)) ?_
        refine go_new rfl (stp_bslv rfl (ho _ _).1 (ho _ _).2) ?_
        intro w
        refine go_new rfl (stp_app (v := v) (es := 1) (n := (bcS q i).2.length) (m' := 1) (cs := (bcS q i).2.map fun q => wiV a q.1 q.2) (news := [wiV a (bcS q i).1 (i + 1)]) rfl rfl (by exact Sel.auto) .rw (by simp [(ho _ _).2]) (by omega) (by omega) (by omega)) ?_
        intro v'
        (repeat (first | refine gst (hk := ?_) | (show GO _ _ _ _ _ (⟨some _, none, .call _ _⟩ :: _) _; first | (refine go_callp rfl code_impl_places_has.callable (fun H hH => has_ok (by omega)) ?_)) | (show GO _ _ _ _ _ (⟨some _, none, _⟩ :: _) _; first | refine go_op (hk := ?_) | (refine go_nw (hk := ?_); intro u; try simp only [llc, lln, lna, lza]) | (refine go_np (hk := ?_); intro id)) | (show GO _ _ _ _ _ (⟨none, none, _⟩ :: _) _; refine go_st (hk := ?_)) | (show GO _ _ _ _ _ (⟨_, some _, _⟩ :: _) _; first | refine go_in (hk := ?_) | refine go_out (hk := ?_) | refine go_void (hk := ?_)) | (show GK _ _ _ _ (blockK _ _ _); refine gk_past rfl ?_) | (show GC _ _ _ _ _ (.cond _ _ _) _; first | refine gc_yes (h1 := ?_) | refine gc_no (h1 := ?_))))
        exact gk_next (hk v')
      · rw [no fun hc => by rcases hbi.1 hc with h3 | h3 <;> omega] at hk
        (repeat (first | refine gst (hk := ?_) | (show GO _ _ _ _ _ (⟨some _, none, .call _ _⟩ :: _) _; first | (refine go_callp rfl code_impl_places_has.callable (fun H hH => has_ok (by omega)) ?_)) | (show GO _ _ _ _ _ (⟨some _, none, _⟩ :: _) _; first | refine go_op (hk := ?_) | (refine go_nw (hk := ?_); intro u; try simp only [llc, lln, lna, lza]) | (refine go_np (hk := ?_); intro id)) | (show GO _ _ _ _ _ (⟨none, none, _⟩ :: _) _; refine go_st (hk := ?_)) | (show GO _ _ _ _ _ (⟨_, some _, _⟩ :: _) _; first | refine go_in (hk := ?_) | refine go_out (hk := ?_) | refine go_void (hk := ?_)) | (show GK _ _ _ _ (blockK _ _ _); refine gk_past rfl ?_) | (show GC _ _ _ _ _ (.cond _ _ _) _; first | refine gc_yes (h1 := ?_) | refine gc_no (h1 := ?_))))
        exact gk_next (hk v)
  · obtain rfl : i = xs.length := by omega
    (repeat (first | refine gst (hk := ?_) | (show GO _ _ _ _ _ (⟨some _, none, .call _ _⟩ :: _) _; first | (refine go_callp rfl code_impl_places_has.callable (fun H hH => has_ok (by omega)) ?_)) | (show GO _ _ _ _ _ (⟨some _, none, _⟩ :: _) _; first | refine go_op (hk := ?_) | (refine go_nw (hk := ?_); intro u; try simp only [llc, lln, lna, lza]) | (refine go_np (hk := ?_); intro id)) | (show GO _ _ _ _ _ (⟨none, none, _⟩ :: _) _; refine go_st (hk := ?_)) | (show GO _ _ _ _ _ (⟨_, some _, _⟩ :: _) _; first | refine go_in (hk := ?_) | refine go_out (hk := ?_) | refine go_void (hk := ?_)) | (show GK _ _ _ _ (blockK _ _ _); refine gk_past rfl ?_) | (show GC _ _ _ _ _ (.cond _ _ _) _; first | refine gc_yes (h1 := ?_) | refine gc_no (h1 := ?_))))
    exact gk_ret rfl fun H' hH => ⟨v, rfl, trivial, hH.sub (by exact Sub.auto)⟩

theorem allCuts_ok {A : Heap} {X : List Nat} {S : Sig} {H : Heap} {a : AV} {xs : List Int} {P : Int} (hS : SOk A X S H.size H) (ha : Ints H a xs) :
    ACalls Try.prog fn_impl_allCuts [a, .int .i64 P] H fun r H' => ∃ g : Nat × Nat, r = .func fn_impl_allCuts_1 [.ptr g.1 0, .ptr g.2 0] ∧ SOk A X ([cel g.1 a, cel g.2 (.int .i64 P)] ++ S) H'.size H' ∧ True := by
  have ho : OneC a := one_slice ha
  refine code_impl_allCuts.gon (R := []) (V := fun g : Nat × Nat => .func fn_impl_allCuts_1 [.ptr g.1 0, .ptr g.2 0]) (T := fun g => [cel g.1 a, cel g.2 (.int .i64 P)]) (Φ := fun _ => True) hS trivial (fun _ => rfl) (by simp) ?_
  unfold mc_impl_allCuts
  (repeat (first | refine gst (hk := ?_) | (show GO _ _ _ _ _ (⟨some _, none, _⟩ :: _) _; first | refine go_op (hk := ?_) | (refine go_nw (hk := ?_); intro u; try simp only [llc, lln, lna, lza]) | (refine go_np (hk := ?_); intro id)) | (show GO _ _ _ _ _ (⟨none, none, _⟩ :: _) _; refine go_st (hk := ?_)) | (show GO _ _ _ _ _ (⟨_, some _, _⟩ :: _) _; first | refine go_in (hk := ?_) | refine go_out (hk := ?_) | refine go_void (hk := ?_)) | (show GK _ _ _ _ (blockK _ _ _); refine gk_past rfl ?_) | (show GC _ _ _ _ _ (.cond _ _ _) _; first | refine gc_yes (h1 := ?_) | refine gc_no (h1 := ?_))))
  refine go_newp rfl (stp_box rfl ho.1 (by simp [ho.2])) (fun i1 => ?_)
  (repeat (first | refine gst (hk := ?_) | (show GO _ _ _ _ _ (⟨some _, none, _⟩ :: _) _; first | refine go_op (hk := ?_) | (refine go_nw (hk := ?_); intro u; try simp only [llc, lln, lna, lza]) | (refine go_np (hk := ?_); intro id)) | (show GO _ _ _ _ _ (⟨none, none, _⟩ :: _) _; refine go_st (hk := ?_)) | (show GO _ _ _ _ _ (⟨_, some _, _⟩ :: _) _; first | refine go_in (hk := ?_) | refine go_out (hk := ?_) | refine go_void (hk := ?_)) | (show GK _ _ _ _ (blockK _ _ _); refine gk_past rfl ?_) | (show GC _ _ _ _ _ (.cond _ _ _) _; first | refine gc_yes (h1 := ?_) | refine gc_no (h1 := ?_))))
  revert id; intro i2
  exact gk_ret rfl fun H' hH => ⟨(i1, i2), rfl, trivial, hH.sub (by exact Sub.auto)⟩

abbrev acS (i1 i2 : Nat) (a : AV) (xs : List Int) (P : Nat) : Sig := [cel i1 a, cel i2 (.int .i64 (P : Int)), .roI a xs.length xs]

theorem allCuts1_ok {A : Heap} {X : List Nat} {H : Heap} {id i1 i2 P : Nat} {a : AV} {xs : List Int} {γ : Type} (hn : 1 ≤ xs.length) (hn8 : xs.length ≤ 8) (R : Nat → γ → Sig) (hskip : ∀ p, p < 2 ^ (xs.length - 1) → P < (pcS xs.length p).length → ∀ z, R (p + 1) z = R p z)
    (hy : ∀ p, p < 2 ^ (xs.length - 1) → (pcS xs.length p).length ≤ P → ∀ v z H', SOk A X (rowsC v a (pcS xs.length p) :: (acS i1 i2 a xs P ++ R p z)) H'.size H' → AYield Try.prog id [v] H' fun t H'' => t = true ∧ ∃ z', SOk A X (acS i1 i2 a xs P ++ R (p + 1) z') H''.size H'')
    (z0 : γ) (hS : SOk A X (acS i1 i2 a xs P ++ R 0 z0) H.size H) :
    ACalls Try.prog fn_impl_allCuts_1 [.yld id, .ptr i1 0, .ptr i2 0] H fun _ H' => ∃ z, SOk A X (acS i1 i2 a xs P ++ R (2 ^ (xs.length - 1)) z) H'.size H' := by
  refine code_impl_allCuts_1.gos hS (by simp) ?_
  unfold mc_impl_allCuts_1
  have h1 : 2 ^ (xs.length - 1) ≤ 2 ^ 7 := Nat.pow_le_pow_right (by omega) (by omega)
  have h2 : 0 < 2 ^ (xs.length - 1) := Nat.pow_pos (by omega)
  (repeat (first | refine gst (hk := ?_) | (show GO _ _ _ _ _ (⟨some _, none, .call _ _⟩ :: _) _; first | (refine go_callp rfl code_impl_firstPlaces.callable (fun H hH => firstPlaces_ok (by omega)) ?_)) | (show GO _ _ _ _ _ (⟨some _, none, _⟩ :: _) _; first | refine go_op (hk := ?_) | (refine go_nw (hk := ?_); intro u; try simp only [llc, lln, lna, lza]) | (refine go_np (hk := ?_); intro id)) | (show GO _ _ _ _ _ (⟨none, none, _⟩ :: _) _; refine go_st (hk := ?_)) | (show GO _ _ _ _ _ (⟨_, some _, _⟩ :: _) _; first | refine go_in (hk := ?_) | refine go_out (hk := ?_) | refine go_void (hk := ?_)) | (show GK _ _ _ _ (blockK _ _ _); refine gk_past rfl ?_) | (show GC _ _ _ _ _ (.cond _ _ _) _; first | refine gc_yes (h1 := ?_) | refine gc_no (h1 := ?_))))
  refine go_recall 8 (.int .i64 ((xs.length - 1 : Nat) : Int)) rfl (by congr 1; omega) ?_
  (repeat (first | refine gst (hk := ?_) | (show GO _ _ _ _ _ (⟨some _, none, .call _ _⟩ :: _) _; first | (refine go_callp rfl code_impl_firstPlaces.callable (fun H hH => firstPlaces_ok (by omega)) ?_)) | (show GO _ _ _ _ _ (⟨some _, none, _⟩ :: _) _; first | refine go_op (hk := ?_) | (refine go_nw (hk := ?_); intro u; try simp only [llc, lln, lna, lza]) | (refine go_np (hk := ?_); intro id)) | (show GO _ _ _ _ _ (⟨none, none, _⟩ :: _) _; refine go_st (hk := ?_)) | (show GO _ _ _ _ _ (⟨_, some _, _⟩ :: _) _; first | refine go_in (hk := ?_) | refine go_out (hk := ?_) | refine go_void (hk := ?_)) | (show GK _ _ _ _ (blockK _ _ _); refine gk_past rfl ?_) | (show GC _ _ _ _ _ (.cond _ _ _) _; first | refine gc_yes (h1 := ?_) | refine gc_no (h1 := ?_))))
  refine gc_loop (γ := Nat × γ) (fun g => [(0, .yld id), (1, .ptr i1 0), (2, .ptr i2 0), (10, .int .u64 ((2 ^ (xs.length - 1) : Nat) : Int)), (11, .int .u64 (g.1 : Int))]) (fun g => acS i1 i2 a xs P ++ R g.1 g.2) (fun g => g.1 ≤ 2 ^ (xs.length - 1)) (fun g => 2 ^ (xs.length - 1) - g.1) (0, z0) (Nat.zero_le _) (hS := sub_refl _) (hb := ?_)
  rintro ⟨p, z⟩ hp I ν m hk
  dsimp only at hp hk ⊢
  (repeat (first | refine gst (hk := ?_) | (show GO _ _ _ _ _ (⟨some _, none, .call _ _⟩ :: _) _; first | (refine go_callp rfl code_impl_firstPlaces.callable (fun H hH => firstPlaces_ok (by omega)) ?_)) | (show GO _ _ _ _ _ (⟨some _, none, _⟩ :: _) _; first | refine go_op (hk := ?_) | (refine go_nw (hk := ?_); intro u; try simp only [llc, lln, lna, lza]) | (refine go_np (hk := ?_); intro id)) | (show GO _ _ _ _ _ (⟨none, none, _⟩ :: _) _; refine go_st (hk := ?_)) | (show GO _ _ _ _ _ (⟨_, some _, _⟩ :: _) _; first | refine go_in (hk := ?_) | refine go_out (hk := ?_) | refine go_void (hk := ?_)) | (show GK _ _ _ _ (blockK _ _ _); refine gk_past rfl ?_) | (show GC _ _ _ _ _ (.cond _ _ _) _; first | refine gc_yes (h1 := ?_) | refine gc_no (h1 := ?_))))
  refine gc_cond rfl (fun h => ?_) (fun h => ?_)
  · have hp' : p < 2 ^ (xs.length - 1) := by omega
    (repeat (first | refine gst (hk := ?_) | (show GO _ _ _ _ _ (⟨some _, none, .call _ _⟩ :: _) _; first | (refine go_callp rfl code_impl_firstPlaces.callable (fun H hH => firstPlaces_ok (by omega)) ?_)) | (show GO _ _ _ _ _ (⟨some _, none, _⟩ :: _) _; first | refine go_op (hk := ?_) | (refine go_nw (hk := ?_); intro u; try simp only [llc, lln, lna, lza]) | (refine go_np (hk := ?_); intro id)) | (show GO _ _ _ _ _ (⟨none, none, _⟩ :: _) _; refine go_st (hk := ?_)) | (show GO _ _ _ _ _ (⟨_, some _, _⟩ :: _) _; first | refine go_in (hk := ?_) | refine go_out (hk := ?_) | refine go_void (hk := ?_)) | (show GK _ _ _ _ (blockK _ _ _); refine gk_past rfl ?_) | (show GC _ _ _ _ _ (.cond _ _ _) _; first | refine gc_yes (h1 := ?_) | refine gc_no (h1 := ?_))))
    refine go_callg (γ := AV) (V := fun g => g) (T := fun g => rowsC g a (pcS xs.length p) :: (acS i1 i2 a xs P ++ R p z)) (Φ := fun _ => True) rfl code_impl_piecesBehind.callable (fun H hH => piecesBehind_ok hH (hH.ints (by exact Has.auto)) hn hn8 hp') ?_
    intro v _
    have hlen := (bcS_le (p + 2 ^ (xs.length - 1)) xs.length).2
    rw [show (bcS (p + 2 ^ (xs.length - 1)) xs.length).2 = pcS xs.length p from rfl] at hlen
    (repeat (first | refine gst (hk := ?_) | (show GO _ _ _ _ _ (⟨some _, none, .call _ _⟩ :: _) _; first | (refine go_callp rfl code_impl_firstPlaces.callable (fun H hH => firstPlaces_ok (by omega)) ?_)) | (show GO _ _ _ _ _ (⟨some _, none, _⟩ :: _) _; first | refine go_op (hk := ?_) | (refine go_nw (hk := ?_); intro u; try simp only [llc, lln, lna, lza]) | (refine go_np (hk := ?_); intro id)) | (show GO _ _ _ _ _ (⟨none, none, _⟩ :: _) _; refine go_st (hk := ?_)) | (show GO _ _ _ _ _ (⟨_, some _, _⟩ :: _) _; first | refine go_in (hk := ?_) | refine go_out (hk := ?_) | refine go_void (hk := ?_)) | (show GK _ _ _ _ (blockK _ _ _); refine gk_past rfl ?_) | (show GC _ _ _ _ _ (.cond _ _ _) _; first | refine gc_yes (h1 := ?_) | refine gc_no (h1 := ?_))))
    refine go_split 21 rfl (fun h3 => ?_) (fun h3 => ?_)
    · (repeat (first | refine gst (hk := ?_) | (show GO _ _ _ _ _ (⟨some _, none, .call _ _⟩ :: _) _; first | (refine go_callp rfl code_impl_firstPlaces.callable (fun H hH => firstPlaces_ok (by omega)) ?_)) | (show GO _ _ _ _ _ (⟨some _, none, _⟩ :: _) _; first | refine go_op (hk := ?_) | (refine go_nw (hk := ?_); intro u; try simp only [llc, lln, lna, lza]) | (refine go_np (hk := ?_); intro id)) | (show GO _ _ _ _ _ (⟨none, none, _⟩ :: _) _; refine go_st (hk := ?_)) | (show GO _ _ _ _ _ (⟨_, some _, _⟩ :: _) _; first | refine go_in (hk := ?_) | refine go_out (hk := ?_) | refine go_void (hk := ?_)) | (show GK _ _ _ _ (blockK _ _ _); refine gk_past rfl ?_) | (show GC _ _ _ _ _ (.cond _ _ _) _; first | refine gc_yes (h1 := ?_) | refine gc_no (h1 := ?_))))
      refine go_yieldE rfl rfl (hy p hp' (by omega) v z) (fun z' => ?_)
      (repeat (first | refine gst (hk := ?_) | (show GO _ _ _ _ _ (⟨some _, none, .call _ _⟩ :: _) _; first | (refine go_callp rfl code_impl_firstPlaces.callable (fun H hH => firstPlaces_ok (by omega)) ?_)) | (show GO _ _ _ _ _ (⟨some _, none, _⟩ :: _) _; first | refine go_op (hk := ?_) | (refine go_nw (hk := ?_); intro u; try simp only [llc, lln, lna, lza]) | (refine go_np (hk := ?_); intro id)) | (show GO _ _ _ _ _ (⟨none, none, _⟩ :: _) _; refine go_st (hk := ?_)) | (show GO _ _ _ _ _ (⟨_, some _, _⟩ :: _) _; first | refine go_in (hk := ?_) | refine go_out (hk := ?_) | refine go_void (hk := ?_)) | (show GK _ _ _ _ (blockK _ _ _); refine gk_past rfl ?_) | (show GC _ _ _ _ _ (.cond _ _ _) _; first | refine gc_yes (h1 := ?_) | refine gc_no (h1 := ?_))))
      rw [show (!true) = false from rfl]
      (repeat (first | refine gst (hk := ?_) | (show GO _ _ _ _ _ (⟨some _, none, .call _ _⟩ :: _) _; first | (refine go_callp rfl code_impl_firstPlaces.callable (fun H hH => firstPlaces_ok (by omega)) ?_)) | (show GO _ _ _ _ _ (⟨some _, none, _⟩ :: _) _; first | refine go_op (hk := ?_) | (refine go_nw (hk := ?_); intro u; try simp only [llc, lln, lna, lza]) | (refine go_np (hk := ?_); intro id)) | (show GO _ _ _ _ _ (⟨none, none, _⟩ :: _) _; refine go_st (hk := ?_)) | (show GO _ _ _ _ _ (⟨_, some _, _⟩ :: _) _; first | refine go_in (hk := ?_) | refine go_out (hk := ?_) | refine go_void (hk := ?_)) | (show GK _ _ _ _ (blockK _ _ _); refine gk_past rfl ?_) | (show GC _ _ _ _ _ (.cond _ _ _) _; first | refine gc_yes (h1 := ?_) | refine gc_no (h1 := ?_))))
      exact gk_next (hk (p + 1, z') (by dsimp only; omega) (by dsimp only; omega)) (hs := sub_refl _)
    · (repeat (first | refine gst (hk := ?_) | (show GO _ _ _ _ _ (⟨some _, none, .call _ _⟩ :: _) _; first | (refine go_callp rfl code_impl_firstPlaces.callable (fun H hH => firstPlaces_ok (by omega)) ?_)) | (show GO _ _ _ _ _ (⟨some _, none, _⟩ :: _) _; first | refine go_op (hk := ?_) | (refine go_nw (hk := ?_); intro u; try simp only [llc, lln, lna, lza]) | (refine go_np (hk := ?_); intro id)) | (show GO _ _ _ _ _ (⟨none, none, _⟩ :: _) _; refine go_st (hk := ?_)) | (show GO _ _ _ _ _ (⟨_, some _, _⟩ :: _) _; first | refine go_in (hk := ?_) | refine go_out (hk := ?_) | refine go_void (hk := ?_)) | (show GK _ _ _ _ (blockK _ _ _); refine gk_past rfl ?_) | (show GC _ _ _ _ _ (.cond _ _ _) _; first | refine gc_yes (h1 := ?_) | refine gc_no (h1 := ?_))))
      have hk1 := hk (p + 1, z) (by dsimp only; omega) (by dsimp only; omega)
      dsimp only at hk1
      rw [hskip p hp' (by omega) z] at hk1
      exact gk_next hk1 (hs := sub_drop (sub_refl _))
  · have : p = 2 ^ (xs.length - 1) := by omega
    subst this
    (repeat (first | refine gst (hk := ?_) | (show GO _ _ _ _ _ (⟨some _, none, .call _ _⟩ :: _) _; first | (refine go_callp rfl code_impl_firstPlaces.callable (fun H hH => firstPlaces_ok (by omega)) ?_)) | (show GO _ _ _ _ _ (⟨some _, none, _⟩ :: _) _; first | refine go_op (hk := ?_) | (refine go_nw (hk := ?_); intro u; try simp only [llc, lln, lna, lza]) | (refine go_np (hk := ?_); intro id)) | (show GO _ _ _ _ _ (⟨none, none, _⟩ :: _) _; refine go_st (hk := ?_)) | (show GO _ _ _ _ _ (⟨_, some _, _⟩ :: _) _; first | refine go_in (hk := ?_) | refine go_out (hk := ?_) | refine go_void (hk := ?_)) | (show GK _ _ _ _ (blockK _ _ _); refine gk_past rfl ?_) | (show GC _ _ _ _ _ (.cond _ _ _) _; first | refine gc_yes (h1 := ?_) | refine gc_no (h1 := ?_))))
    exact gk_retn rfl fun H' hH => ⟨z, hH⟩

theorem maxZ {xs : List Int} (s k : Nat) (h : s < k) : max 0 (rgI xs s k) = rgI xs s k := by have := rg_nonneg (xs := xs) h; omega

def rmT (xs : List Int) (P : Nat) : Nat → Int
  | 0 => rgI xs 0 xs.length
  | p + 1 => if (pcS xs.length p).length ≤ P then min (rmT xs P p) (smC max 0 (rgI xs) (pcS xs.length p)) else rmT xs P p

theorem rmT_is {xs : List Int} {P : Nat} (hS : Steps xs) (hP : 1 ≤ P) : ∀ p, p ≤ 2 ^ (xs.length - 1) → (∃ q, q ≤ P ∧ Cuts max (rgI xs) q 0 xs.length (rmT xs P p)) ∧ ∀ p', p' < p → (pcS xs.length p').length ≤ P → rmT xs P p ≤ smC max 0 (rgI xs) (pcS xs.length p')
  | 0, _ => ⟨⟨1, hP, .one hS.2.1⟩, fun p' h => by omega⟩
  | p + 1, hp => by
    obtain ⟨ih1, ih2⟩ := rmT_is hS hP p (by omega)
    rw [rmT]; split
    · rename_i hl
      refine ⟨?_, fun p' h1 h2 => ?_⟩
      · rcases Int.le_total (rmT xs P p) (smC max 0 (rgI xs) (pcS xs.length p)) with h | h
        · rw [Int.min_eq_left h]; exact ih1
        · rw [Int.min_eq_right h]
          exact ⟨_, hl, pcS_cuts maxZ hS.2.1 hS.2.2 (by omega)⟩
      · rcases Nat.lt_or_ge p' p with h | h
        · have := ih2 p' h h2; omega
        · obtain rfl : p' = p := by omega
          omega
    · rename_i hl
      refine ⟨ih1, fun p' h1 h2 => ?_⟩
      rcases Nat.lt_or_ge p' p with h | h
      · exact ih2 p' h h2
      · obtain rfl : p' = p := by omega
        exact absurd h2 hl

theorem rmT_end {xs : List Int} {P : Nat} (hS : Steps xs) (hP : 1 ≤ P) : rmT xs P (2 ^ (xs.length - 1)) = lrV xs P := by
  obtain ⟨h1, h2⟩ := rmT_is hS hP _ (Nat.le_refl _)
  refine LeastC.uniq cstM ⟨h1, fun q w hq hw => ?_⟩ (lr_least hS hP)
  obtain ⟨p, g1, g2, g3⟩ := cuts_pcS maxZ hw hS.2.2
  have := h2 p g1 (by omega)
  rw [g3] at this
  exact this

theorem rows_nth {a : AV} {L : List (Nat × Nat)} {j : Nat} {q : Nat × Nat} (h : L[j]? = some q) : nthV (L.map fun q => wiV a q.1 q.2) j = wiV a q.1 q.2 := by
  have hi := (List.getElem?_eq_some_iff.1 h).1
  rw [show nthV (L.map fun q => wiV a q.1 q.2) j = (L.map fun q => wiV a q.1 q.2)[j]'(by rw [List.length_map]; exact hi) from nthA_of _]
  simp [(List.getElem?_eq_some_iff.1 h).2]

theorem smC_take {α : Type} {op : α → α → α} {z : α} {c : Nat → Nat → α} {L : List (Nat × Nat)} {j : Nat} {q : Nat × Nat} (h : L[j]? = some q) : smC op z c (L.take (j + 1)) = op (smC op z c (L.take j)) (c q.1 q.2) := by
  rw [List.take_add_one, h]
  exact smC_snoc

theorem smM_bd {xs : List Int} (hb : ∀ j, -30 ≤ nth xs j ∧ nth xs j ≤ 30) : ∀ (L : List (Nat × Nat)), (∀ z ∈ L, z.1 < z.2) → 0 ≤ smC max 0 (rgI xs) L ∧ smC max 0 (rgI xs) L ≤ 60 := by
  intro L
  suffices h : ∀ (L : List (Nat × Nat)) (v : Int), 0 ≤ v ∧ v ≤ 60 → (∀ z ∈ L, z.1 < z.2) → 0 ≤ L.foldl (fun v q => max v (rgI xs q.1 q.2)) v ∧ L.foldl (fun v q => max v (rgI xs q.1 q.2)) v ≤ 60 from h L 0 (by omega)
  intro L
  induction L with
  | nil => intro v hv _; exact hv
  | cons q L ih =>
    intro v hv hL
    have h1 := room_cuts hb (Cuts.one (hL q (by simp)))
    refine ih (max v (rgI xs q.1 q.2)) (by omega) fun z hz => hL z (by simp [hz])

theorem implRoomTried_ok {H : Heap} {a : AV} {xs : List Int} {p : Int} (ha : Ints H a xs) (hl : xs.length ≤ 1000000000) :
    ACalls Try.prog fn_impl_RoomTried [a, .int .i64 p] H fun r H' => r = .int .i64 (if PsOk xs p then lrV xs p.toNat else -1) ∧ H' = H := by
  refine ACalls.val ?_ rfl
  refine code_impl_RoomTried.go [.roI a xs.length xs] ⟨⟨rfl, ha⟩, trivial⟩ (by simp) ?_
  unfold mc_impl_RoomTried
  (repeat (first | refine gst (hk := ?_) | (with_reducible refine gc_drq ?_; intro _) | (show GO _ _ _ _ _ (⟨some _, none, _⟩ :: _) _; first | refine go_op (hk := ?_) | (refine go_nw (hk := ?_); intro u; try simp only [llc, lln, lna, lza]) | (refine go_np (hk := ?_); intro id)) | (show GQ _ _ _ _ _ _ _ (⟨some _, none, _⟩ :: _) _; first | refine gq_op (hk := ?_) | (refine gq_nw (hk := ?_); intro u; try simp only [llc, lln, lna, lza])) | (show GO _ _ _ _ _ (⟨none, none, _⟩ :: _) _; refine go_st (hk := ?_)) | (show GO _ _ _ _ _ (⟨_, some _, _⟩ :: _) _; first | refine go_in (hk := ?_) | refine go_out (hk := ?_) | refine go_void (hk := ?_)) | (show GQ _ _ _ _ _ _ _ (⟨_, some _, _⟩ :: _) _; first | refine gq_in (hk := ?_) | refine gq_out (hk := ?_) | refine gq_void (hk := ?_)) | (show GK _ _ _ _ (blockK _ _ _); refine gk_past rfl ?_) | (show GC _ _ _ _ _ (.cond _ _ _) _; first | refine gc_yes (h1 := ?_) | refine gc_no (h1 := ?_))))
  refine go_callp rfl code_impl_validPieces.callable (fun H hH => validPieces_ok (hH.ints (by exact Has.auto)) hl) ?_
  (repeat (first | refine gst (hk := ?_) | (with_reducible refine gc_drq ?_; intro _) | (show GO _ _ _ _ _ (⟨some _, none, _⟩ :: _) _; first | refine go_op (hk := ?_) | (refine go_nw (hk := ?_); intro u; try simp only [llc, lln, lna, lza]) | (refine go_np (hk := ?_); intro id)) | (show GQ _ _ _ _ _ _ _ (⟨some _, none, _⟩ :: _) _; first | refine gq_op (hk := ?_) | (refine gq_nw (hk := ?_); intro u; try simp only [llc, lln, lna, lza])) | (show GO _ _ _ _ _ (⟨none, none, _⟩ :: _) _; refine go_st (hk := ?_)) | (show GO _ _ _ _ _ (⟨_, some _, _⟩ :: _) _; first | refine go_in (hk := ?_) | refine go_out (hk := ?_) | refine go_void (hk := ?_)) | (show GQ _ _ _ _ _ _ _ (⟨_, some _, _⟩ :: _) _; first | refine gq_in (hk := ?_) | refine gq_out (hk := ?_) | refine gq_void (hk := ?_)) | (show GK _ _ _ _ (blockK _ _ _); refine gk_past rfl ?_) | (show GC _ _ _ _ _ (.cond _ _ _) _; first | refine gc_yes (h1 := ?_) | refine gc_no (h1 := ?_))))
  refine gc_cond rfl (fun h1 => ?_) (fun h1 => ?_)
  · (repeat (first | refine gst (hk := ?_) | (with_reducible refine gc_drq ?_; intro _) | (show GO _ _ _ _ _ (⟨some _, none, _⟩ :: _) _; first | refine go_op (hk := ?_) | (refine go_nw (hk := ?_); intro u; try simp only [llc, lln, lna, lza]) | (refine go_np (hk := ?_); intro id)) | (show GQ _ _ _ _ _ _ _ (⟨some _, none, _⟩ :: _) _; first | refine gq_op (hk := ?_) | (refine gq_nw (hk := ?_); intro u; try simp only [llc, lln, lna, lza])) | (show GO _ _ _ _ _ (⟨none, none, _⟩ :: _) _; refine go_st (hk := ?_)) | (show GO _ _ _ _ _ (⟨_, some _, _⟩ :: _) _; first | refine go_in (hk := ?_) | refine go_out (hk := ?_) | refine go_void (hk := ?_)) | (show GQ _ _ _ _ _ _ _ (⟨_, some _, _⟩ :: _) _; first | refine gq_in (hk := ?_) | refine gq_out (hk := ?_) | refine gq_void (hk := ?_)) | (show GK _ _ _ _ (blockK _ _ _); refine gk_past rfl ?_) | (show GC _ _ _ _ _ (.cond _ _ _) _; first | refine gc_yes (h1 := ?_) | refine gc_no (h1 := ?_))))
    exact gk_ret rfl fun H' hH => ⟨by rw [if_neg h1]; rfl, hH.leE⟩
  have hP := Decidable.not_not.1 h1
  have hS := hP.1
  have hn := hS.2.2
  have hn1 := hS.2.1
  obtain ⟨P, rfl⟩ : ∃ p' : Nat, p = (p' : Int) := ⟨p.toNat, by have := hP.2; omega⟩
  have hp1 : 1 ≤ P := by have := hP.2; omega
  rw [if_pos hP]
  simp only [Int.toNat_natCast]
  rw [← rmT_end hS hp1]
  (repeat (first | refine gst (hk := ?_) | (with_reducible refine gc_drq ?_; intro _) | (show GO _ _ _ _ _ (⟨some _, none, _⟩ :: _) _; first | refine go_op (hk := ?_) | (refine go_nw (hk := ?_); intro u; try simp only [llc, lln, lna, lza]) | (refine go_np (hk := ?_); intro id)) | (show GQ _ _ _ _ _ _ _ (⟨some _, none, _⟩ :: _) _; first | refine gq_op (hk := ?_) | (refine gq_nw (hk := ?_); intro u; try simp only [llc, lln, lna, lza])) | (show GO _ _ _ _ _ (⟨none, none, _⟩ :: _) _; refine go_st (hk := ?_)) | (show GO _ _ _ _ _ (⟨_, some _, _⟩ :: _) _; first | refine go_in (hk := ?_) | refine go_out (hk := ?_) | refine go_void (hk := ?_)) | (show GQ _ _ _ _ _ _ _ (⟨_, some _, _⟩ :: _) _; first | refine gq_in (hk := ?_) | refine gq_out (hk := ?_) | refine gq_void (hk := ?_)) | (show GK _ _ _ _ (blockK _ _ _); refine gk_past rfl ?_) | (show GC _ _ _ _ _ (.cond _ _ _) _; first | refine gc_yes (h1 := ?_) | refine gc_no (h1 := ?_))))
  refine go_callp rfl code_impl_roomOf.callable (fun H hH => roomOf_ok (hH.ints (by exact Has.auto)) hS.x hn1 hn) ?_
  (repeat (first | refine gst (hk := ?_) | (with_reducible refine gc_drq ?_; intro _) | (show GO _ _ _ _ _ (⟨some _, none, _⟩ :: _) _; first | refine go_op (hk := ?_) | (refine go_nw (hk := ?_); intro u; try simp only [llc, lln, lna, lza]) | (refine go_np (hk := ?_); intro id)) | (show GQ _ _ _ _ _ _ _ (⟨some _, none, _⟩ :: _) _; first | refine gq_op (hk := ?_) | (refine gq_nw (hk := ?_); intro u; try simp only [llc, lln, lna, lza])) | (show GO _ _ _ _ _ (⟨none, none, _⟩ :: _) _; refine go_st (hk := ?_)) | (show GO _ _ _ _ _ (⟨_, some _, _⟩ :: _) _; first | refine go_in (hk := ?_) | refine go_out (hk := ?_) | refine go_void (hk := ?_)) | (show GQ _ _ _ _ _ _ _ (⟨_, some _, _⟩ :: _) _; first | refine gq_in (hk := ?_) | refine gq_out (hk := ?_) | refine gq_void (hk := ?_)) | (show GK _ _ _ _ (blockK _ _ _); refine gk_past rfl ?_) | (show GC _ _ _ _ _ (.cond _ _ _) _; first | refine gc_yes (h1 := ?_) | refine gc_no (h1 := ?_))))
  revert id; intro i5
  refine go_callg (γ := Nat × Nat) (V := fun g => .func fn_impl_allCuts_1 [.ptr g.1 0, .ptr g.2 0]) (T := fun g => acS g.1 g.2 a xs P ++ [cel i5 (.int .i64 (rmT xs P 0))]) (Φ := fun _ => True) rfl code_impl_allCuts.callable (fun H hH => (allCuts_ok (P := (P : Int)) hH (hH.ints (by exact Has.auto))).mono fun r H' ⟨g, h1, h2, h3⟩ => ⟨g, h1, h2.sub (by show Sub [cel g.1 a, cel g.2 (.int .i64 (P : Int)), ⟨.cell, .ptr i5 0, _, _, _⟩, .roI a xs.length xs] _; exact Sub.auto), h3⟩) ?_
  rintro ⟨i1, i2⟩ _
  dsimp only
  (repeat (first | refine gst (hk := ?_) | (with_reducible refine gc_drq ?_; intro _) | (show GO _ _ _ _ _ (⟨some _, none, _⟩ :: _) _; first | refine go_op (hk := ?_) | (refine go_nw (hk := ?_); intro u; try simp only [llc, lln, lna, lza]) | (refine go_np (hk := ?_); intro id)) | (show GQ _ _ _ _ _ _ _ (⟨some _, none, _⟩ :: _) _; first | refine gq_op (hk := ?_) | (refine gq_nw (hk := ?_); intro u; try simp only [llc, lln, lna, lza])) | (show GO _ _ _ _ _ (⟨none, none, _⟩ :: _) _; refine go_st (hk := ?_)) | (show GO _ _ _ _ _ (⟨_, some _, _⟩ :: _) _; first | refine go_in (hk := ?_) | refine go_out (hk := ?_) | refine go_void (hk := ?_)) | (show GQ _ _ _ _ _ _ _ (⟨_, some _, _⟩ :: _) _; first | refine gq_in (hk := ?_) | refine gq_out (hk := ?_) | refine gq_void (hk := ?_)) | (show GK _ _ _ _ (blockK _ _ _); refine gk_past rfl ?_) | (show GC _ _ _ _ _ (.cond _ _ _) _; first | refine gc_yes (h1 := ?_) | refine gc_no (h1 := ?_))))
  refine gc_rfuncE (ι := Nat × Option AV) (γ := Unit) (f := fn_impl_allCuts_1) (caps := [.ptr i1 0, .ptr i2 0]) (fun t _ => (match t.2 with | some v => [rowsC v a (pcS xs.length t.1)] | none => []) ++ (acS i1 i2 a xs P ++ [cel i5 (.int .i64 (rmT xs P t.1))])) (fun s t vs => ∃ p v, s = (p, some v) ∧ t = (p + 1, none) ∧ p < 2 ^ (xs.length - 1) ∧ (pcS xs.length p).length ≤ P ∧ vs = [v]) (0, none) (2 ^ (xs.length - 1), none) () rfl code_impl_allCuts_1.callable (sub_refl _) ?_ ?_ ?_
  · intro A' yd H hy hS0
    exact allCuts1_ok hn1 hn (fun p _ => [cel i5 (.int .i64 (rmT xs P p))]) (fun p hp hlt z => by rw [rmT, if_neg (by omega)]) (fun p hp hle v z H' hH' => by
      have := hy (p, some v) (p + 1, none) [v] ⟨p, v, rfl, rfl, hp, hle, rfl⟩ [] () H' (by rw [List.append_nil]; exact hH')
      simpa using this) () hS0
  · rintro s t vs ⟨p, v, rfl, rfl, hp, hle, rfl⟩
    refine ⟨rfl, fun F u ob1 ob2 Q1 Q2 g1 g2 => ?_⟩
    have hmem := bcS_mem (p + 2 ^ (xs.length - 1)) xs.length
    have hlen := (bcS_le (p + 2 ^ (xs.length - 1)) xs.length).2
    rw [show (bcS (p + 2 ^ (xs.length - 1)) xs.length).2 = pcS xs.length p from rfl] at hmem hlen
    simp only [List.cons_append, List.nil_append] at g2 ⊢
    rw [rmT, if_pos hle] at g2
    generalize pcS xs.length p = L at *
    (repeat (first | refine gst (hk := ?_) | (with_reducible refine gc_drq ?_; intro _) | (show GO _ _ _ _ _ (⟨some _, none, _⟩ :: _) _; first | refine go_op (hk := ?_) | (refine go_nw (hk := ?_); intro u; try simp only [llc, lln, lna, lza]) | (refine go_np (hk := ?_); intro id)) | (show GQ _ _ _ _ _ _ _ (⟨some _, none, _⟩ :: _) _; first | refine gq_op (hk := ?_) | (refine gq_nw (hk := ?_); intro u; try simp only [llc, lln, lna, lza])) | (show GO _ _ _ _ _ (⟨none, none, _⟩ :: _) _; refine go_st (hk := ?_)) | (show GO _ _ _ _ _ (⟨_, some _, _⟩ :: _) _; first | refine go_in (hk := ?_) | refine go_out (hk := ?_) | refine go_void (hk := ?_)) | (show GQ _ _ _ _ _ _ _ (⟨_, some _, _⟩ :: _) _; first | refine gq_in (hk := ?_) | refine gq_out (hk := ?_) | refine gq_void (hk := ?_)) | (show GK _ _ _ _ (blockK _ _ _); refine gk_past rfl ?_) | (show GC _ _ _ _ _ (.cond _ _ _) _; first | refine gc_yes (h1 := ?_) | refine gc_no (h1 := ?_))))
    refine g1 _ _ ?_
    (repeat (first | refine gst (hk := ?_) | (with_reducible refine gc_drq ?_; intro _) | (show GO _ _ _ _ _ (⟨some _, none, _⟩ :: _) _; first | refine go_op (hk := ?_) | (refine go_nw (hk := ?_); intro u; try simp only [llc, lln, lna, lza]) | (refine go_np (hk := ?_); intro id)) | (show GQ _ _ _ _ _ _ _ (⟨some _, none, _⟩ :: _) _; first | refine gq_op (hk := ?_) | (refine gq_nw (hk := ?_); intro u; try simp only [llc, lln, lna, lza])) | (show GO _ _ _ _ _ (⟨none, none, _⟩ :: _) _; refine go_st (hk := ?_)) | (show GO _ _ _ _ _ (⟨_, some _, _⟩ :: _) _; first | refine go_in (hk := ?_) | refine go_out (hk := ?_) | refine go_void (hk := ?_)) | (show GQ _ _ _ _ _ _ _ (⟨_, some _, _⟩ :: _) _; first | refine gq_in (hk := ?_) | refine gq_out (hk := ?_) | refine gq_void (hk := ?_)) | (show GK _ _ _ _ (blockK _ _ _); refine gk_past rfl ?_) | (show GC _ _ _ _ _ (.cond _ _ _) _; first | refine gc_yes (h1 := ?_) | refine gc_no (h1 := ?_))))
    have hbd := smM_bd hS.x
    refine gc_up L.length (fun j => [(5, .ptr i5 0), (7, .int .i64 (smC max 0 (rgI xs) (L.take j))), (20, v), (21, .int .i64 (L.length : Int)), (22, .int .i64 (j : Int))]) (fun _ => rowsC v a L :: cel i1 a :: cel i2 (.int .i64 (P : Int)) :: .roI a xs.length xs :: cel i5 (.int .i64 (rmT xs P p)) :: F) (hS := sub_refl _) (hb := ?_)
    intro j hj I ν m hk
    (repeat (first | refine gst (hk := ?_) | (with_reducible refine gc_drq ?_; intro _) | (show GO _ _ _ _ _ (⟨some _, none, _⟩ :: _) _; first | refine go_op (hk := ?_) | (refine go_nw (hk := ?_); intro u; try simp only [llc, lln, lna, lza]) | (refine go_np (hk := ?_); intro id)) | (show GQ _ _ _ _ _ _ _ (⟨some _, none, _⟩ :: _) _; first | refine gq_op (hk := ?_) | (refine gq_nw (hk := ?_); intro u; try simp only [llc, lln, lna, lza])) | (show GO _ _ _ _ _ (⟨none, none, _⟩ :: _) _; refine go_st (hk := ?_)) | (show GO _ _ _ _ _ (⟨_, some _, _⟩ :: _) _; first | refine go_in (hk := ?_) | refine go_out (hk := ?_) | refine go_void (hk := ?_)) | (show GQ _ _ _ _ _ _ _ (⟨_, some _, _⟩ :: _) _; first | refine gq_in (hk := ?_) | refine gq_out (hk := ?_) | refine gq_void (hk := ?_)) | (show GK _ _ _ _ (blockK _ _ _); refine gk_past rfl ?_) | (show GC _ _ _ _ _ (.cond _ _ _) _; first | refine gc_yes (h1 := ?_) | refine gc_no (h1 := ?_))))
    refine gc_cond rfl (fun h => ?_) (fun h => ?_)
    · have hk := hk (by omega)
      obtain ⟨q, hq⟩ : ∃ q, L[j]? = some q := ⟨L[j]'(by omega), List.getElem?_eq_getElem (by omega)⟩
      have hqm := hmem q (List.mem_of_getElem? hq)
      rw [smC_take hq] at hk
      have hwl := win_len2 (xs := xs) (i := q.1) hqm.2
      (repeat (first | refine gst (hk := ?_) | (with_reducible refine gc_drq ?_; intro _) | (show GO _ _ _ _ _ (⟨some _, none, _⟩ :: _) _; first | refine go_op (hk := ?_) | (refine go_nw (hk := ?_); intro u; try simp only [llc, lln, lna, lza]) | (refine go_np (hk := ?_); intro id)) | (show GQ _ _ _ _ _ _ _ (⟨some _, none, _⟩ :: _) _; first | refine gq_op (hk := ?_) | (refine gq_nw (hk := ?_); intro u; try simp only [llc, lln, lna, lza])) | (show GO _ _ _ _ _ (⟨none, none, _⟩ :: _) _; refine go_st (hk := ?_)) | (show GO _ _ _ _ _ (⟨_, some _, _⟩ :: _) _; first | refine go_in (hk := ?_) | refine go_out (hk := ?_) | refine go_void (hk := ?_)) | (show GQ _ _ _ _ _ _ _ (⟨_, some _, _⟩ :: _) _; first | refine gq_in (hk := ?_) | refine gq_out (hk := ?_) | refine gq_void (hk := ?_)) | (show GK _ _ _ _ (blockK _ _ _); refine gk_past rfl ?_) | (show GC _ _ _ _ _ (.cond _ _ _) _; first | refine gc_yes (h1 := ?_) | refine gc_no (h1 := ?_))))
      refine go_is rfl (stp_ldV (i := j) rfl (by exact Has.auto) (by simp) (by simp; omega)) ?_
      rw [rows_nth hq]
      (repeat (first | refine gst (hk := ?_) | (with_reducible refine gc_drq ?_; intro _) | (show GO _ _ _ _ _ (⟨some _, none, _⟩ :: _) _; first | refine go_op (hk := ?_) | (refine go_nw (hk := ?_); intro u; try simp only [llc, lln, lna, lza]) | (refine go_np (hk := ?_); intro id)) | (show GQ _ _ _ _ _ _ _ (⟨some _, none, _⟩ :: _) _; first | refine gq_op (hk := ?_) | (refine gq_nw (hk := ?_); intro u; try simp only [llc, lln, lna, lza])) | (show GO _ _ _ _ _ (⟨none, none, _⟩ :: _) _; refine go_st (hk := ?_)) | (show GO _ _ _ _ _ (⟨_, some _, _⟩ :: _) _; first | refine go_in (hk := ?_) | refine go_out (hk := ?_) | refine go_void (hk := ?_)) | (show GQ _ _ _ _ _ _ _ (⟨_, some _, _⟩ :: _) _; first | refine gq_in (hk := ?_) | refine gq_out (hk := ?_) | refine gq_void (hk := ?_)) | (show GK _ _ _ _ (blockK _ _ _); refine gk_past rfl ?_) | (show GC _ _ _ _ _ (.cond _ _ _) _; first | refine gc_yes (h1 := ?_) | refine gc_no (h1 := ?_))))
      refine go_callp rfl code_impl_roomOf.callable (fun H hH => roomOf_ok (ints_wi (hH.ints (v := a) (n := xs.length) (xs := xs) (by exact Has.auto)) (by omega)) (hS.win q.1 q.2) (by omega) (by omega)) ?_
      rw [rg_win hqm.1 hqm.2]
      (repeat (first | refine gst (hk := ?_) | (with_reducible refine gc_drq ?_; intro _) | (show GO _ _ _ _ _ (⟨some _, none, _⟩ :: _) _; first | refine go_op (hk := ?_) | (refine go_nw (hk := ?_); intro u; try simp only [llc, lln, lna, lza]) | (refine go_np (hk := ?_); intro id)) | (show GQ _ _ _ _ _ _ _ (⟨some _, none, _⟩ :: _) _; first | refine gq_op (hk := ?_) | (refine gq_nw (hk := ?_); intro u; try simp only [llc, lln, lna, lza])) | (show GO _ _ _ _ _ (⟨none, none, _⟩ :: _) _; refine go_st (hk := ?_)) | (show GO _ _ _ _ _ (⟨_, some _, _⟩ :: _) _; first | refine go_in (hk := ?_) | refine go_out (hk := ?_) | refine go_void (hk := ?_)) | (show GQ _ _ _ _ _ _ _ (⟨_, some _, _⟩ :: _) _; first | refine gq_in (hk := ?_) | refine gq_out (hk := ?_) | refine gq_void (hk := ?_)) | (show GK _ _ _ _ (blockK _ _ _); refine gk_past rfl ?_) | (show GC _ _ _ _ _ (.cond _ _ _) _; first | refine gc_yes (h1 := ?_) | refine gc_no (h1 := ?_))))
      exact gk_next hk (hs := sub_refl _)
    · obtain rfl : j = L.length := by omega
      rw [List.take_length]
      (repeat (first | refine gst (hk := ?_) | (with_reducible refine gc_drq ?_; intro _) | (show GO _ _ _ _ _ (⟨some _, none, _⟩ :: _) _; first | refine go_op (hk := ?_) | (refine go_nw (hk := ?_); intro u; try simp only [llc, lln, lna, lza]) | (refine go_np (hk := ?_); intro id)) | (show GQ _ _ _ _ _ _ _ (⟨some _, none, _⟩ :: _) _; first | refine gq_op (hk := ?_) | (refine gq_nw (hk := ?_); intro u; try simp only [llc, lln, lna, lza])) | (show GO _ _ _ _ _ (⟨none, none, _⟩ :: _) _; refine go_st (hk := ?_)) | (show GO _ _ _ _ _ (⟨_, some _, _⟩ :: _) _; first | refine go_in (hk := ?_) | refine go_out (hk := ?_) | refine go_void (hk := ?_)) | (show GQ _ _ _ _ _ _ _ (⟨_, some _, _⟩ :: _) _; first | refine gq_in (hk := ?_) | refine gq_out (hk := ?_) | refine gq_void (hk := ?_)) | (show GK _ _ _ _ (blockK _ _ _); refine gk_past rfl ?_) | (show GC _ _ _ _ _ (.cond _ _ _) _; first | refine gc_yes (h1 := ?_) | refine gc_no (h1 := ?_))))
      exact gk_next (F := []) (g2 [] ()) (hs := by (repeat (refine Sub.cons (by exact Sel.auto) ?_)); exact sub_drop (sub_refl _))
  · intro z
    (repeat (first | refine gst (hk := ?_) | (with_reducible refine gc_drq ?_; intro _) | (show GO _ _ _ _ _ (⟨some _, none, _⟩ :: _) _; first | refine go_op (hk := ?_) | (refine go_nw (hk := ?_); intro u; try simp only [llc, lln, lna, lza]) | (refine go_np (hk := ?_); intro id)) | (show GQ _ _ _ _ _ _ _ (⟨some _, none, _⟩ :: _) _; first | refine gq_op (hk := ?_) | (refine gq_nw (hk := ?_); intro u; try simp only [llc, lln, lna, lza])) | (show GO _ _ _ _ _ (⟨none, none, _⟩ :: _) _; refine go_st (hk := ?_)) | (show GO _ _ _ _ _ (⟨_, some _, _⟩ :: _) _; first | refine go_in (hk := ?_) | refine go_out (hk := ?_) | refine go_void (hk := ?_)) | (show GQ _ _ _ _ _ _ _ (⟨_, some _, _⟩ :: _) _; first | refine gq_in (hk := ?_) | refine gq_out (hk := ?_) | refine gq_void (hk := ?_)) | (show GK _ _ _ _ (blockK _ _ _); refine gk_past rfl ?_) | (show GC _ _ _ _ _ (.cond _ _ _) _; first | refine gc_yes (h1 := ?_) | refine gc_no (h1 := ?_))))
    exact gk_ret rfl fun H' hH => ⟨rfl, hH.leE⟩

theorem gmL_le (ys : List Int) : ∀ y ∈ ys, y ≤ gmL ys := fun y hy => by
  obtain ⟨j, h1, h2⟩ := nth_ex hy
  have := (gmT_is ys (ys.length - 1)).2 j (by omega)
  unfold gmL; omega

theorem gmL_in (ys : List Int) (h : 1 ≤ ys.length) : gmL ys ∈ ys := by
  obtain ⟨j, h1, h2⟩ := (gmT_is ys (ys.length - 1)).1
  unfold gmL
  rw [← h2]
  exact nth_mem (by omega)

theorem gm_sum {xs : List Int} (h0 : 1 ≤ xs.length) : rgI xs 0 xs.length = gmL xs + gmL (xs.map (- ·)) := by
  have hle := gmL_le
  have hin := gmL_in
  apply Int.le_antisymm
  · rw [rg_le (by omega)]
    intro a b _ a2 _ b2
    have h1 := hle xs _ (nth_mem a2)
    have h2 := hle (xs.map (- ·)) _ (List.mem_map.2 ⟨_, nth_mem b2, rfl⟩)
    omega
  · obtain ⟨a, a1, a2⟩ := nth_ex (hin xs h0)
    obtain ⟨y, y1, y2⟩ := List.mem_map.1 (hin (xs.map (- ·)) (by rw [List.length_map]; exact h0))
    obtain ⟨b, b1, b2⟩ := nth_ex y1
    have := (rg_le (xs := xs) (i := 0) (k := xs.length) (by omega)).1 (Int.le_refl _) a b (by omega) (by omega) (by omega) (by omega)
    omega

def SmP (xs : List Int) (i d : Nat) : Prop := ∀ t, i ≤ t → t < i + d → nth xs t = nth xs i

noncomputable instance (xs : List Int) (i d : Nat) : Decidable (SmP xs i d) := Classical.propDecidable _

theorem SmP.succ {xs : List Int} {i d : Nat} : SmP xs i (d + 1) ↔ SmP xs i d ∧ nth xs (i + d) = nth xs i := by
  constructor
  · exact fun h => ⟨fun t h1 h2 => h t h1 (by omega), h (i + d) (by omega) (by omega)⟩
  · rintro ⟨h1, h2⟩ t h3 h4
    rcases Nat.lt_or_ge t (i + d) with h5 | h5
    · exact h1 t h3 h5
    · rw [show t = i + d by omega]; exact h2

theorem gr_ends {xs : List Int} {r : Int} : ∀ {L : List Nat} {k : Nat}, GrOk xs r L k → ∀ j, j < L.length → ∃ s e, (L.reverse ++ [k])[j]? = some s ∧ (L.reverse ++ [k])[j + 1]? = some e ∧ s < e ∧ e ≤ k ∧ rgI xs s e ≤ r
  | [], k, _, j, h => by simp at h
  | s :: t, k, h, j, hj => by
    obtain ⟨h1, h2, h3⟩ := h
    have hl : (t.reverse ++ [s]).length = t.length + 1 := by simp
    rw [List.reverse_cons]
    rcases Nat.lt_or_ge j t.length with h4 | h4
    · obtain ⟨a, b, g1, g2, g3, g4, g5⟩ := gr_ends h3 j h4
      exact ⟨a, b, by rw [List.getElem?_append_left (by omega)]; exact g1, by rw [List.getElem?_append_left (by omega)]; exact g2, g3, by omega, g5⟩
    · have : j = t.length := by simp only [List.length_cons] at hj; omega
      subst this
      refine ⟨s, k, ?_, ?_, h1, Nat.le_refl _, h2⟩
      · rw [List.getElem?_append_left (by omega), List.getElem?_append_right (by simp)]; simp
      · rw [List.getElem?_append_right (by omega), hl]; simp

def endZ (xs : List Int) (r : Int) : List Int := grZ xs r xs.length ++ [(xs.length : Int)]

theorem endZ_at {xs : List Int} {r : Int} (hr : 0 ≤ r) {j : Nat} (hj : j < (grZ xs r xs.length).length) : ∃ s e : Nat, nth (endZ xs r) j = (s : Int) ∧ nth (endZ xs r) (j + 1) = (e : Int) ∧ s < e ∧ e ≤ xs.length ∧ rgI xs s e ≤ r := by
  rw [grZ_len] at hj
  obtain ⟨s, e, h1, h2, h3, h4, h5⟩ := gr_ends (gr_ok (xs := xs) hr xs.length) j hj
  have e0 : endZ xs r = ((grL xs r xs.length).reverse ++ [xs.length]).map fun n : Nat => (n : Int) := by unfold endZ grZ; simp
  refine ⟨s, e, ?_, ?_, h3, h4, h5⟩
  · rw [e0]; unfold nth; rw [List.getD_eq_getElem?_getD, List.getElem?_map, h1]; rfl
  · rw [e0]; unfold nth; rw [List.getD_eq_getElem?_getD, List.getElem?_map, h2]; rfl

end Go.Rx.Try
