import Derived.Test.YtophpmdlgphihacFnRoomTriedD2
namespace Go.Rx.Try
open Go.Proofs
set_option maxRecDepth 100000
set_option maxHeartbeats 8000000
set_option linter.unusedSimpArgs false
set_option linter.unusedVariables false

theorem cuts_bcS {α : Type} {op : α → α → α} {z : α} {c : Nat → Nat → α} (hz : ∀ s k, s < k → op z (c s k) = c s k) {q k : Nat} {v : α} (h : Cuts op c q 0 k v) : k ≤ 8 → ∃ p, p < 2 ^ (k - 1) ∧ (bcS (p + 2 ^ (k - 1)) k).1 = k ∧ (bcS (p + 2 ^ (k - 1)) k).2.length = q ∧ smC op z c (bcS (p + 2 ^ (k - 1)) k).2 = v := by
  generalize h0 : (0 : Nat) = i0 at h
  induction h with
  | @one i k h =>
    subst h0
    intro hk
    have hb := bit_topq (k - 1) (by omega) 0 (Nat.pow_pos (by omega))
    have e0 : bcS (0 + 2 ^ (k - 1)) (k - 1) = (0, []) := by
      have := bcS_stay (q := 0 + 2 ^ (k - 1)) (i := 0) (k - 1) fun j _ hj hc => by
        rcases (hb j (by omega)).1 hc with h | h
        · simp at h
        · omega
      rw [Nat.zero_add (k - 1)] at this
      exact this
    have e1 : bcS (0 + 2 ^ (k - 1)) k = (k, [(0, k)]) := by
      rw [show k = (k - 1) + 1 by omega, bcS, show k - 1 + 1 - 1 = k - 1 by omega, e0, if_pos ((hb (k - 1) (Nat.le_refl _)).2 (.inr rfl))]
      rfl
    refine ⟨0, Nat.pow_pos (by omega), ?_⟩
    rw [e1]
    exact ⟨rfl, rfl, hz 0 k h⟩
  | @snoc q i m k v h hk ih =>
    subst h0
    intro hk8
    obtain ⟨p, h1, h2, h3, h4⟩ := ih rfl (by omega)
    have hm := h.lt
    have hb := bit_topq (m - 1) (by omega) p h1
    have hpm : p + 2 ^ (m - 1) < 2 ^ m := by
      have : 2 ^ m = 2 ^ (m - 1) * 2 := by rw [← Nat.pow_succ]; congr 1; omega
      omega
    have hle : 2 ^ m ≤ 2 ^ (k - 1) := Nat.pow_le_pow_right (by omega) (by omega)
    have hb2 := bit_topq (k - 1) (by omega) (p + 2 ^ (m - 1)) (by omega)
    have e1 : bcS (p + 2 ^ (m - 1) + 2 ^ (k - 1)) m = bcS (p + 2 ^ (m - 1)) m := bcS_congr fun j hj => by
      rw [hb2 j (by omega)]
      exact ⟨fun h => h.resolve_right (by omega), .inl⟩
    have e2 : bcS (p + 2 ^ (m - 1) + 2 ^ (k - 1)) (k - 1) = bcS (p + 2 ^ (m - 1)) m := by
      have := bcS_stay (q := p + 2 ^ (m - 1) + 2 ^ (k - 1)) (i := m) (k - 1 - m) fun j h5 h6 hc => by
        rcases (hb2 j (by omega)).1 hc with h7 | h7
        · have : 2 ^ m ≤ 2 ^ j := Nat.pow_le_pow_right (by omega) h5
          rw [Nat.div_eq_of_lt (by omega)] at h7
          simp at h7
        · omega
      rw [show m + (k - 1 - m) = k - 1 by omega, e1] at this
      exact this
    have e3 : bcS (p + 2 ^ (m - 1) + 2 ^ (k - 1)) k = (k, (bcS (p + 2 ^ (m - 1)) m).2 ++ [(m, k)]) := by
      rw [show k = (k - 1) + 1 by omega, bcS, show k - 1 + 1 - 1 = k - 1 by omega, e2, if_pos ((hb2 (k - 1) (Nat.le_refl _)).2 (.inr rfl)), h2]
    refine ⟨p + 2 ^ (m - 1), by omega, ?_⟩
    rw [e3]
    refine ⟨rfl, ?_, ?_⟩
    · rw [List.length_append, h3]; rfl
    · rw [smC_snoc, h4]

/-- the pieces of a set of places -/
def pcS (n p : Nat) : List (Nat × Nat) := (bcS (p + 2 ^ (n - 1)) n).2

theorem pcS_cuts {α : Type} {op : α → α → α} {z : α} {c : Nat → Nat → α} (hz : ∀ s k, s < k → op z (c s k) = c s k) {n p : Nat} (hn : 1 ≤ n) (hn8 : n ≤ 8) (hp : p < 2 ^ (n - 1)) : Cuts op c (pcS n p).length 0 n (smC op z c (pcS n p)) := by
  have hb := bit_topq (n - 1) (by omega) p hp (n - 1) (Nat.le_refl _)
  have e : bcS (p + 2 ^ (n - 1)) n = (n, (bcS (p + 2 ^ (n - 1)) (n - 1)).2 ++ [((bcS (p + 2 ^ (n - 1)) (n - 1)).1, n)]) := by
    conv => lhs; rw [show n = (n - 1) + 1 by omega, bcS, show n - 1 + 1 - 1 = n - 1 by omega, if_pos (hb.2 (.inr rfl))]
    rw [show n - 1 + 1 = n by omega]
  rcases bcS_cuts hz (p + 2 ^ (n - 1)) n with ⟨h1, _⟩ | ⟨_, h2⟩
  · rw [e] at h1; dsimp only at h1; omega
  · rw [e] at h2; dsimp only at h2
    unfold pcS; rw [e]; exact h2

theorem cuts_pcS {α : Type} {op : α → α → α} {z : α} {c : Nat → Nat → α} (hz : ∀ s k, s < k → op z (c s k) = c s k) {q n : Nat} {v : α} (h : Cuts op c q 0 n v) (hn8 : n ≤ 8) : ∃ p, p < 2 ^ (n - 1) ∧ (pcS n p).length = q ∧ smC op z c (pcS n p) = v := by
  obtain ⟨p, h1, _, h2, h3⟩ := cuts_bcS hz h hn8
  exact ⟨p, h1, h2, h3⟩

/-- windows with two bounds -/
def wiV : AV → Nat → Nat → AV
  | .slice id off _ cap es, l, h => .slice id (off + l * es) (h - l) (cap.map (· - l)) es
  | v, _, _ => v

theorem wiV_bid {v : AV} {l h j : Nat} (hj : (wiV v l h).bid = some j) : v.bid = some j := by
  cases v <;> first | exact hj | (simp [wiV, AV.bid] at hj; done)

theorem stp_sl2 {A : Heap} {X : List Nat} {E : List (Nat × AV)} {S : Sig} {x lo hi : MX} {v : AV} {k n l h : Nat} {cs : List AV} (hx : evE E x = some v) (hl : evE E lo = some (.int .i64 (l : Int))) (hh : evE E hi = some (.int .i64 (h : Int))) (hs : Has S v k n cs) (hb : l ≤ h ∧ h ≤ n) :
    Stp A X E S (.sl x (some lo) (some hi) none k) (Is (wiV v l h) S) :=
  stp_pure fun τ H m nid hE hS => by
    have hv := hS.valsA hs
    have b1 : ∀ d, bnd n (some (AV.int .i64 (h : Int))) d = some h := by
      intro d; simp only [bnd]; rw [if_pos (by omega)]; simp
    have b3 : ∀ d, bnd h (some (AV.int .i64 (l : Int))) d = some l := by
      intro d; simp only [bnd]; rw [if_pos (by omega)]; simp
    simp only [mstep, ev_of hE hx, Option.map_some, ev_of hE hl, ev_of hE hh, Option.map_none, msl, hv.len, b1, b3, show bnd n none n = some n from rfl]
    cases v with
    | slice id off n' cap es =>
      have e2 : es = k := by
        rcases hv.esn with h | h
        · cases h
        · simpa [AV.es] using h
      subst e2
      simp [wiV]
    | nilSlice => rfl
    | _ => exact absurd hv.sl (by simp [AV.isSlice])

theorem ints_wi {H : Heap} {v : AV} {l h : Nat} {xs : List Int} (hv : Ints H v xs) (hl : l ≤ h ∧ h ≤ xs.length) : Ints H (wiV v l h) (winL xs l h) := by
  have hwl := win_len2 (xs := xs) (i := l) hl.2
  cases v with
  | slice id off n' cap es =>
    have e1 : n' = xs.length := hv.len
    have e2 : es = 1 := by
      rcases hv.esn with h | h
      · cases h
      · simpa [AV.es] using h
    subst e1; subst e2
    refine ⟨rfl, by rw [hwl]; rfl, .inr rfl, by rw [Nat.mul_one, Rx.ints, List.length_map], ?_, fun j hj => hv.bid j (wiV_bid hj)⟩
    have hr := hv.row
    simp only [wiV, Heap.row] at hr ⊢
    by_cases h0 : h - l = 0
    · rw [if_pos h0, List.eq_nil_of_length_eq_zero (hwl.trans h0)]; rfl
    · rw [if_neg (by omega)] at hr
      rw [if_neg h0]
      simp only [Heap.read] at hr ⊢
      split at hr
      · rename_i b hb
        split at hr
        · rename_i h1
          simp only [Option.some.injEq] at hr
          rw [if_pos (by omega)]
          unfold winL
          simp only [Nat.mul_one] at hr ⊢
          rw [Rx.ints, List.map_take, List.map_drop, ← Rx.ints, ← hr, List.drop_take, List.drop_drop, List.take_take, Nat.min_eq_left (by omega)]
        · cases hr
      · cases hr
  | nilSlice =>
    have e1 : 0 = xs.length := hv.len
    have : xs = [] := List.eq_nil_of_length_eq_zero e1.symm
    subst this
    have : winL [] l h = [] := by simp [winL]
    rw [this]; exact hv
  | _ => exact absurd hv.sl (by simp [AV.isSlice])

theorem wi_one {H : Heap} {v : AV} {l h : Nat} {xs : List Int} (hv : Ints H v xs) : OneC (wiV v l h) := by
  cases v with
  | slice id off n' cap es => exact ⟨rfl, rfl⟩
  | nilSlice => exact ⟨rfl, rfl⟩
  | _ => exact absurd hv.sl (by simp [AV.isSlice])

abbrev rowsC (u a : AV) (L : List (Nat × Nat)) : Ch := ⟨.rw, u, 1, L.length, L.map fun q => wiV a q.1 q.2⟩

theorem piecesBehind_ok {A : Heap} {X : List Nat} {S : Sig} {H : Heap} {a : AV} {xs : List Int} {p : Nat} (hS : SOk A X S H.size H) (ha : Ints H a xs) (hn : 1 ≤ xs.length) (hn8 : xs.length ≤ 8) (hp : p < 2 ^ (xs.length - 1)) :
    ACalls Try.prog fn_impl_piecesBehind [a, .int .u64 (p : Int)] H fun r H' => ∃ g : AV, r = g ∧ SOk A X ([rowsC g a (pcS xs.length p)] ++ S) H'.size H' ∧ True := by
  have ho : ∀ l h, OneC (wiV a l h) := fun l h => wi_one ha
  have hb := bit_topq (xs.length - 1) (by omega) p hp
  refine code_impl_piecesBehind.gon (R := [.roI a xs.length xs]) (V := fun g => g) (T := fun g => [rowsC g a (pcS xs.length p)]) (Φ := fun _ => True) hS ⟨⟨rfl, ha⟩, trivial⟩ (fun g => rfl) (by simp) ?_
  unfold mc_impl_piecesBehind
  unfold pcS
  (repeat (first | refine gst (hk := ?_) | (show GO _ _ _ _ _ (⟨some _, none, .call _ _⟩ :: _) _; first | (refine go_callp rfl code_impl_places_has.callable (fun H hH => has_ok (by omega)) ?_)) | (show GO _ _ _ _ _ (⟨some _, none, _⟩ :: _) _; first | refine go_op (hk := ?_) | (refine go_nw (hk := ?_); intro u; try simp only [llc, lln, lna, lza]) | (refine go_np (hk := ?_); intro id)) | (show GO _ _ _ _ _ (⟨none, none, _⟩ :: _) _; refine go_st (hk := ?_)) | (show GO _ _ _ _ _ (⟨_, some _, _⟩ :: _) _; first | refine go_in (hk := ?_) | refine go_out (hk := ?_) | refine go_void (hk := ?_)) | (show GK _ _ _ _ (blockK _ _ _); refine gk_past rfl ?_) | (show GC _ _ _ _ _ (.cond _ _ _) _; first | refine gc_yes (h1 := ?_) | refine gc_no (h1 := ?_))))
  refine gc_nilK 1 ?_
  generalize hq : p + 2 ^ (xs.length - 1) = q at *
  refine gc_upv xs.length (fun i v => [(0, a), (1, .int .u64 (p : Int)), (5, v), (6, .int .i64 ((bcS q i).1 : Int)), (9, .int .i64 (xs.length : Int)), (10, .int .i64 (i : Int))]) (fun i v => [rowsC v a (bcS q i).2, .roI a xs.length xs]) .nilSlice (hb := ?_)
  intro i v hi I ν m hk
  (repeat (first | refine gst (hk := ?_) | (show GO _ _ _ _ _ (⟨some _, none, .call _ _⟩ :: _) _; first | (refine go_callp rfl code_impl_places_has.callable (fun H hH => has_ok (by omega)) ?_)) | (show GO _ _ _ _ _ (⟨some _, none, _⟩ :: _) _; first | refine go_op (hk := ?_) | (refine go_nw (hk := ?_); intro u; try simp only [llc, lln, lna, lza]) | (refine go_np (hk := ?_); intro id)) | (show GO _ _ _ _ _ (⟨none, none, _⟩ :: _) _; refine go_st (hk := ?_)) | (show GO _ _ _ _ _ (⟨_, some _, _⟩ :: _) _; first | refine go_in (hk := ?_) | refine go_out (hk := ?_) | refine go_void (hk := ?_)) | (show GK _ _ _ _ (blockK _ _ _); refine gk_past rfl ?_) | (show GC _ _ _ _ _ (.cond _ _ _) _; first | refine gc_yes (h1 := ?_) | refine gc_no (h1 := ?_))))
  refine gc_cond rfl (fun h => ?_) (fun h => ?_)
  · have hk := hk (by omega)
    have hle := bcS_le q i
    have cut : q / 2 ^ i % 2 = 1 → bcS q (i + 1) = (i + 1, (bcS q i).2 ++ [((bcS q i).1, i + 1)]) := fun h => if_pos h
    have no : ¬ q / 2 ^ i % 2 = 1 → bcS q (i + 1) = bcS q i := fun h => if_neg h
    have hbi := hb i (by omega)
    (repeat (first | refine gst (hk := ?_) | (show GO _ _ _ _ _ (⟨some _, none, .call _ _⟩ :: _) _; first | (refine go_callp rfl code_impl_places_has.callable (fun H hH => has_ok (by omega)) ?_)) | (show GO _ _ _ _ _ (⟨some _, none, _⟩ :: _) _; first | refine go_op (hk := ?_) | (refine go_nw (hk := ?_); intro u; try simp only [llc, lln, lna, lza]) | (refine go_np (hk := ?_); intro id)) | (show GO _ _ _ _ _ (⟨none, none, _⟩ :: _) _; refine go_st (hk := ?_)) | (show GO _ _ _ _ _ (⟨_, some _, _⟩ :: _) _; first | refine go_in (hk := ?_) | refine go_out (hk := ?_) | refine go_void (hk := ?_)) | (show GK _ _ _ _ (blockK _ _ _); refine gk_past rfl ?_) | (show GC _ _ _ _ _ (.cond _ _ _) _; first | refine gc_yes (h1 := ?_) | refine gc_no (h1 := ?_))))
    refine go_split 16 rfl (fun h1 => ?_) (fun h1 => ?_)
    · rw [cut (hbi.2 (.inl h1))] at hk
      simp only [rowsC, List.length_append, List.length_singleton, List.map_append, List.map_cons, List.map_nil] at hk
      (repeat (first | refine gst (hk := ?_) | (show GO _ _ _ _ _ (⟨some _, none, .call _ _⟩ :: _) _; first | (refine go_callp rfl code_impl_places_has.callable (fun H hH => has_ok (by omega)) ?_)) | (show GO _ _ _ _ _ (⟨some _, none, _⟩ :: _) _; first | refine go_op (hk := ?_) | (refine go_nw (hk := ?_); intro u; try simp only [llc, lln, lna, lza]) | (refine go_np (hk := ?_); intro id)) | (show GO _ _ _ _ _ (⟨none, none, _⟩ :: _) _; refine go_st (hk := ?_)) | (show GO _ _ _ _ _ (⟨_, some _, _⟩ :: _) _; first | refine go_in (hk := ?_) | refine go_out (hk := ?_) | refine go_void (hk := ?_)) | (show GK _ _ _ _ (blockK _ _ _); refine gk_past rfl ?_) | (show GC _ _ _ _ _ (.cond _ _ _) _; first | refine gc_yes (h1 := ?_) | refine gc_no (h1 := ?_))))
      refine go_is rfl (stp_sl2 (l := (bcS q i).1) (h := i + 1) rfl rfl rfl (by exact Has.auto) (by omega)) ?_
      refine go_new rfl (stp_bslv rfl (ho _ _).1 (ho _ _).2) ?_
      intro w
      refine go_new rfl (stp_app (v := v) (es := 1) (n := (bcS q i).2.length) (m' := 1) (cs := (bcS q i).2.map fun q => wiV a q.1 q.2) (news := [wiV a (bcS q i).1 (i + 1)]) rfl rfl (by exact Sel.auto) .rw (by simp [(ho _ _).2]) (by omega) (by omega) (by omega)) ?_
      intro v'
      (repeat (first | refine gst (hk := ?_) | (show GO _ _ _ _ _ (⟨some _, none, .call _ _⟩ :: _) _; first | (refine go_callp rfl code_impl_places_has.callable (fun H hH => has_ok (by omega)) ?_)) | (show GO _ _ _ _ _ (⟨some _, none, _⟩ :: _) _; first | refine go_op (hk := ?_) | (refine go_nw (hk := ?_); intro u; try simp only [llc, lln, lna, lza]) | (refine go_np (hk := ?_); intro id)) | (show GO _ _ _ _ _ (⟨none, none, _⟩ :: _) _; refine go_st (hk := ?_)) | (show GO _ _ _ _ _ (⟨_, some _, _⟩ :: _) _; first | refine go_in (hk := ?_) | refine go_out (hk := ?_) | refine go_void (hk := ?_)) | (show GK _ _ _ _ (blockK _ _ _); refine gk_past rfl ?_) | (show GC _ _ _ _ _ (.cond _ _ _) _; first | refine gc_yes (h1 := ?_) | refine gc_no (h1 := ?_))))
      exact gk_next (hk v')
    · (repeat (first | refine gst (hk := ?_) | (show GO _ _ _ _ _ (⟨some _, none, .call _ _⟩ :: _) _; first | (refine go_callp rfl code_impl_places_has.callable (fun H hH => has_ok (by omega)) ?_)) | (show GO _ _ _ _ _ (⟨some _, none, _⟩ :: _) _; first | refine go_op (hk := ?_) | (refine go_nw (hk := ?_); intro u; try simp only [llc, lln, lna, lza]) | (refine go_np (hk := ?_); intro id)) | (show GO _ _ _ _ _ (⟨none, none, _⟩ :: _) _; refine go_st (hk := ?_)) | (show GO _ _ _ _ _ (⟨_, some _, _⟩ :: _) _; first | refine go_in (hk := ?_) | refine go_out (hk := ?_) | refine go_void (hk := ?_)) | (show GK _ _ _ _ (blockK _ _ _); refine gk_past rfl ?_) | (show GC _ _ _ _ _ (.cond _ _ _) _; first | refine gc_yes (h1 := ?_) | refine gc_no (h1 := ?_))))
      refine gc_cond rfl (fun h2 => ?_) (fun h2 => ?_)
      · rw [cut (hbi.2 (.inr (by omega)))] at hk
        simp only [rowsC, List.length_append, List.length_singleton, List.map_append, List.map_cons, List.map_nil] at hk
        (repeat (first | refine gst (hk := ?_) | (show GO _ _ _ _ _ (⟨some _, none, .call _ _⟩ :: _) _; first | (refine go_callp rfl code_impl_places_has.callable (fun H hH => has_ok (by omega)) ?_)) | (show GO _ _ _ _ _ (⟨some _, none, _⟩ :: _) _; first | refine go_op (hk := ?_) | (refine go_nw (hk := ?_); intro u; try simp only [llc, lln, lna, lza]) | (refine go_np (hk := ?_); intro id)) | (show GO _ _ _ _ _ (⟨none, none, _⟩ :: _) _; refine go_st (hk := ?_)) | (show GO _ _ _ _ _ (⟨_, some _, _⟩ :: _) _; first | refine go_in (hk := ?_) | refine go_out (hk := ?_) | refine go_void (hk := ?_)) | (show GK _ _ _ _ (blockK _ _ _); refine gk_past rfl ?_) | (show GC _ _ _ _ _ (.cond _ _ _) _; first | refine gc_yes (h1 := ?_) | refine gc_no (h1 := ?_))))
        refine go_is rfl (stp_sl2 (l := (bcS q i).1) (h := i + 1) rfl rfl rfl (by exact Has.auto) (by omega)) ?_
        refine go_new rfl (stp_bslv rfl (ho _ _).1 (ho _ _).2) ?_
        intro w
        refine go_new rfl (stp_app (v := v) (es := 1) (n := (bcS q i).2.length) (m' := 1) (cs := (bcS q i).2.map fun q => wiV a q.1 q.2) (news := [wiV a (bcS q i).1 (i + 1)]) rfl rfl (by exact Sel.auto) .rw (by simp [(ho _ _).2]) (by omega) (by omega) (by omega)) ?_
        intro v'
        (repeat (first | refine gst (hk := ?_) | (show GO _ _ _ _ _ (⟨some _, none, .call _ _⟩ :: _) _; first | (refine go_callp rfl code_impl_places_has.callable (fun H hH => has_ok (by omega)) ?_)) | (show GO _ _ _ _ _ (⟨some _, none, _⟩ :: _) _; first | refine go_op (hk := ?_) | (refine go_nw (hk := ?_); intro u; try simp only [llc, lln, lna, lza]) | (refine go_np (hk := ?_); intro id)) | (show GO _ _ _ _ _ (⟨none, none, _⟩ :: _) _; refine go_st (hk := ?_)) | (show GO _ _ _ _ _ (⟨_, some _, _⟩ :: _) _; first | refine go_in (hk := ?_) | refine go_out (hk := ?_) | refine go_void (hk := ?_)) | (show GK _ _ _ _ (blockK _ _ _); refine gk_past rfl ?_) | (show GC _ _ _ _ _ (.cond _ _ _) _; first | refine gc_yes (h1 := ?_) | refine gc_no (h1 := ?_))))
        exact gk_next (hk v')
      · rw [no fun hc => by rcases hbi.1 hc with h3 | h3 <;> omega] at hk
        (repeat (first | refine gst (hk := ?_) | (show GO _ _ _ _ _ (⟨some _, none, .call _ _⟩ :: _) _; first | (refine go_callp rfl code_impl_places_has.callable (fun H hH => has_ok (by omega)) ?_)) | (show GO _ _ _ _ _ (⟨some _, none, _⟩ :: _) _; first | refine go_op (hk := ?_) | (refine go_nw (hk := ?_); intro u; try simp only [llc, lln, lna, lza]) | (refine go_np (hk := ?_); intro id)) | (show GO _ _ _ _ _ (⟨none, none, _⟩ :: _) _; refine go_st (hk := ?_)) | (show GO _ _ _ _ _ (⟨_, some _, _⟩ :: _) _; first | refine go_in (hk := ?_) | refine go_out (hk := ?_) | refine go_void (hk := ?_)) | (show GK _ _ _ _ (blockK _ _ _); refine gk_past rfl ?_) | (show GC _ _ _ _ _ (.cond _ _ _) _; first | refine gc_yes (h1 := ?_) | refine gc_no (h1 := ?_))))
        exact gk_next (hk v)
  · obtain rfl : i = xs.length := by omega
    (repeat (first | refine gst (hk := ?_) | (show GO _ _ _ _ _ (⟨some _, none, .call _ _⟩ :: _) _; first | (refine go_callp rfl code_impl_places_has.callable (fun H hH => has_ok (by omega)) ?_)) | (show GO _ _ _ _ _ (⟨some _, none, _⟩ :: _) _; first | refine go_op (hk := ?_) | (refine go_nw (hk := ?_); intro u; try simp only [llc, lln, lna, lza]) | (refine go_np (hk := ?_); intro id)) | (show GO _ _ _ _ _ (⟨none, none, _⟩ :: _) _; refine go_st (hk := ?_)) | (show GO _ _ _ _ _ (⟨_, some _, _⟩ :: _) _; first | refine go_in (hk := ?_) | refine go_out (hk := ?_) | refine go_void (hk := ?_)) | (show GK _ _ _ _ (blockK _ _ _); refine gk_past rfl ?_) | (show GC _ _ _ _ _ (.cond _ _ _) _; first | refine gc_yes (h1 := ?_) | refine gc_no (h1 := ?_))))
    exact gk_ret rfl fun H' hH => ⟨v, rfl, trivial, hH.sub (by exact Sub.auto)⟩

theorem allCuts_ok {A : Heap} {X : List Nat} {S : Sig} {H : Heap} {a : AV} {xs : List Int} {P : Int} (hS : SOk A X S H.size H) (ha : Ints H a xs) :
    ACalls Try.prog fn_impl_allCuts [a, .int .i64 P] H fun r H' => ∃ g : Nat × Nat, r = .func fn_impl_allCuts_1 [.ptr g.1 0, .ptr g.2 0] ∧ SOk A X ([cel g.1 a, cel g.2 (.int .i64 P)] ++ S) H'.size H' ∧ True := by
  have ho : OneC a := one_slice ha
  refine code_impl_allCuts.gon (R := []) (V := fun g : Nat × Nat => .func fn_impl_allCuts_1 [.ptr g.1 0, .ptr g.2 0]) (T := fun g => [cel g.1 a, cel g.2 (.int .i64 P)]) (Φ := fun _ => True) hS trivial (fun _ => rfl) (by simp) ?_
  unfold mc_impl_allCuts
  (repeat (first | refine gst (hk := ?_) | (show GO _ _ _ _ _ (⟨some _, none, _⟩ :: _) _; first | refine go_op (hk := ?_) | (refine go_nw (hk := ?_); intro u; try simp only [llc, lln, lna, lza]) | (refine go_np (hk := ?_); intro id)) | (show GO _ _ _ _ _ (⟨none, none, _⟩ :: _) _; refine go_st (hk := ?_)) | (show GO _ _ _ _ _ (⟨_, some _, _⟩ :: _) _; first | refine go_in (hk := ?_) | refine go_out (hk := ?_) | refine go_void (hk := ?_)) | (show GK _ _ _ _ (blockK _ _ _); refine gk_past rfl ?_) | (show GC _ _ _ _ _ (.cond _ _ _) _; first | refine gc_yes (h1 := ?_) | refine gc_no (h1 := ?_))))
  refine go_newp rfl (stp_box rfl ho.1 (by simp [ho.2])) (fun i1 => ?_)
  (repeat (first | refine gst (hk := ?_) | (show GO _ _ _ _ _ (⟨some _, none, _⟩ :: _) _; first | refine go_op (hk := ?_) | (refine go_nw (hk := ?_); intro u; try simp only [llc, lln, lna, lza]) | (refine go_np (hk := ?_); intro id)) | (show GO _ _ _ _ _ (⟨none, none, _⟩ :: _) _; refine go_st (hk := ?_)) | (show GO _ _ _ _ _ (⟨_, some _, _⟩ :: _) _; first | refine go_in (hk := ?_) | refine go_out (hk := ?_) | refine go_void (hk := ?_)) | (show GK _ _ _ _ (blockK _ _ _); refine gk_past rfl ?_) | (show GC _ _ _ _ _ (.cond _ _ _) _; first | refine gc_yes (h1 := ?_) | refine gc_no (h1 := ?_))))
  revert id; intro i2
  exact gk_ret rfl fun H' hH => ⟨(i1, i2), rfl, trivial, hH.sub (by exact Sub.auto)⟩

abbrev acS (i1 i2 : Nat) (a : AV) (xs : List Int) (P : Nat) : Sig := [cel i1 a, cel i2 (.int .i64 (P : Int)), .roI a xs.length xs]

theorem allCuts1_ok {A : Heap} {X : List Nat} {H : Heap} {id i1 i2 P : Nat} {a : AV} {xs : List Int} {γ : Type} (hn : 1 ≤ xs.length) (hn8 : xs.length ≤ 8) (R : Nat → γ → Sig) (hskip : ∀ p, p < 2 ^ (xs.length - 1) → P < (pcS xs.length p).length → ∀ z, R (p + 1) z = R p z)
    (hy : ∀ p, p < 2 ^ (xs.length - 1) → (pcS xs.length p).length ≤ P → ∀ v z H', SOk A X (rowsC v a (pcS xs.length p) :: (acS i1 i2 a xs P ++ R p z)) H'.size H' → AYield Try.prog id [v] H' fun t H'' => t = true ∧ ∃ z', SOk A X (acS i1 i2 a xs P ++ R (p + 1) z') H''.size H'')
    (z0 : γ) (hS : SOk A X (acS i1 i2 a xs P ++ R 0 z0) H.size H) :
    ACalls Try.prog fn_impl_allCuts_1 [.yld id, .ptr i1 0, .ptr i2 0] H fun _ H' => ∃ z, SOk A X (acS i1 i2 a xs P ++ R (2 ^ (xs.length - 1)) z) H'.size H' := by
  refine code_impl_allCuts_1.gos hS (by simp) ?_
  unfold mc_impl_allCuts_1
  have h1 : 2 ^ (xs.length - 1) ≤ 2 ^ 7 := Nat.pow_le_pow_right (by omega) (by omega)
  have h2 : 0 < 2 ^ (xs.length - 1) := Nat.pow_pos (by omega)
  (repeat (first | refine gst (hk := ?_) | (show GO _ _ _ _ _ (⟨some _, none, .call _ _⟩ :: _) _; first | (refine go_callp rfl code_impl_firstPlaces.callable (fun H hH => firstPlaces_ok (by omega)) ?_)) | (show GO _ _ _ _ _ (⟨some _, none, _⟩ :: _) _; first | refine go_op (hk := ?_) | (refine go_nw (hk := ?_); intro u; try simp only [llc, lln, lna, lza]) | (refine go_np (hk := ?_); intro id)) | (show GO _ _ _ _ _ (⟨none, none, _⟩ :: _) _; refine go_st (hk := ?_)) | (show GO _ _ _ _ _ (⟨_, some _, _⟩ :: _) _; first | refine go_in (hk := ?_) | refine go_out (hk := ?_) | refine go_void (hk := ?_)) | (show GK _ _ _ _ (blockK _ _ _); refine gk_past rfl ?_) | (show GC _ _ _ _ _ (.cond _ _ _) _; first | refine gc_yes (h1 := ?_) | refine gc_no (h1 := ?_))))
  refine go_recall 8 (.int .i64 ((xs.length - 1 : Nat) : Int)) rfl (by congr 1; omega) ?_
  (repeat (first | refine gst (hk := ?_) | (show GO _ _ _ _ _ (⟨some _, none, .call _ _⟩ :: _) _; first | (refine go_callp rfl code_impl_firstPlaces.callable (fun H hH => firstPlaces_ok (by omega)) ?_)) | (show GO _ _ _ _ _ (⟨some _, none, _⟩ :: _) _; first | refine go_op (hk := ?_) | (refine go_nw (hk := ?_); intro u; try simp only [llc, lln, lna, lza]) | (refine go_np (hk := ?_); intro id)) | (show GO _ _ _ _ _ (⟨none, none, _⟩ :: _) _; refine go_st (hk := ?_)) | (show GO _ _ _ _ _ (⟨_, some _, _⟩ :: _) _; first | refine go_in (hk := ?_) | refine go_out (hk := ?_) | refine go_void (hk := ?_)) | (show GK _ _ _ _ (blockK _ _ _); refine gk_past rfl ?_) | (show GC _ _ _ _ _ (.cond _ _ _) _; first | refine gc_yes (h1 := ?_) | refine gc_no (h1 := ?_))))
  refine gc_loop (γ := Nat × γ) (fun g => [(0, .yld id), (1, .ptr i1 0), (2, .ptr i2 0), (10, .int .u64 ((2 ^ (xs.length - 1) : Nat) : Int)), (11, .int .u64 (g.1 : Int))]) (fun g => acS i1 i2 a xs P ++ R g.1 g.2) (fun g => g.1 ≤ 2 ^ (xs.length - 1)) (fun g => 2 ^ (xs.length - 1) - g.1) (0, z0) (Nat.zero_le _) (hS := sub_refl _) (hb := ?_)
  rintro ⟨p, z⟩ hp I ν m hk
  dsimp only at hp hk ⊢
  (repeat (first | refine gst (hk := ?_) | (show GO _ _ _ _ _ (⟨some _, none, .call _ _⟩ :: _) _; first | (refine go_callp rfl code_impl_firstPlaces.callable (fun H hH => firstPlaces_ok (by omega)) ?_)) | (show GO _ _ _ _ _ (⟨some _, none, _⟩ :: _) _; first | refine go_op (hk := ?_) | (refine go_nw (hk := ?_); intro u; try simp only [llc, lln, lna, lza]) | (refine go_np (hk := ?_); intro id)) | (show GO _ _ _ _ _ (⟨none, none, _⟩ :: _) _; refine go_st (hk := ?_)) | (show GO _ _ _ _ _ (⟨_, some _, _⟩ :: _) _; first | refine go_in (hk := ?_) | refine go_out (hk := ?_) | refine go_void (hk := ?_)) | (show GK _ _ _ _ (blockK _ _ _); refine gk_past rfl ?_) | (show GC _ _ _ _ _ (.cond _ _ _) _; first | refine gc_yes (h1 := ?_) | refine gc_no (h1 := ?_))))
  refine gc_cond rfl (fun h => ?_) (fun h => ?_)
  · have hp' : p < 2 ^ (xs.length - 1) := by omega
    (repeat (first | refine gst (hk := ?_) | (show GO _ _ _ _ _ (⟨some _, none, .call _ _⟩ :: _) _; first | (refine go_callp rfl code_impl_firstPlaces.callable (fun H hH => firstPlaces_ok (by omega)) ?_)) | (show GO _ _ _ _ _ (⟨some _, none, _⟩ :: _) _; first | refine go_op (hk := ?_) | (refine go_nw (hk := ?_); intro u; try simp only [llc, lln, lna, lza]) | (refine go_np (hk := ?_); intro id)) | (show GO _ _ _ _ _ (⟨none, none, _⟩ :: _) _; refine go_st (hk := ?_)) | (show GO _ _ _ _ _ (⟨_, some _, _⟩ :: _) _; first | refine go_in (hk := ?_) | refine go_out (hk := ?_) | refine go_void (hk := ?_)) | (show GK _ _ _ _ (blockK _ _ _); refine gk_past rfl ?_) | (show GC _ _ _ _ _ (.cond _ _ _) _; first | refine gc_yes (h1 := ?_) | refine gc_no (h1 := ?_))))
    refine go_callg (γ := AV) (V := fun g => g) (T := fun g => rowsC g a (pcS xs.length p) :: (acS i1 i2 a xs P ++ R p z)) (Φ := fun _ => True) rfl code_impl_piecesBehind.callable (fun H hH => piecesBehind_ok hH (hH.ints (by exact Has.auto)) hn hn8 hp') ?_
    intro v _
    have hlen := (bcS_le (p + 2 ^ (xs.length - 1)) xs.length).2
    rw [show (bcS (p + 2 ^ (xs.length - 1)) xs.length).2 = pcS xs.length p from rfl] at hlen
    (repeat (first | refine gst (hk := ?_) | (show GO _ _ _ _ _ (⟨some _, none, .call _ _⟩ :: _) _; first | (refine go_callp rfl code_impl_firstPlaces.callable (fun H hH => firstPlaces_ok (by omega)) ?_)) | (show GO _ _ _ _ _ (⟨some _, none, _⟩ :: _) _; first | refine go_op (hk := ?_) | (refine go_nw (hk := ?_); intro u; try simp only [llc, lln, lna, lza]) | (refine go_np (hk := ?_); intro id)) | (show GO _ _ _ _ _ (⟨none, none, _⟩ :: _) _; refine go_st (hk := ?_)) | (show GO _ _ _ _ _ (⟨_, some _, _⟩ :: _) _; first | refine go_in (hk := ?_) | refine go_out (hk := ?_) | refine go_void (hk := ?_)) | (show GK _ _ _ _ (blockK _ _ _); refine gk_past rfl ?_) | (show GC _ _ _ _ _ (.cond _ _ _) _; first | refine gc_yes (h1 := ?_) | refine gc_no (h1 := ?_))))
    refine go_split 21 rfl (fun h3 => ?_) (fun h3 => ?_)
    · (repeat (first | refine gst (hk := ?_) | (show GO _ _ _ _ _ (⟨some _, none, .call _ _⟩ :: _) _; first | (refine go_callp rfl code_impl_firstPlaces.callable (fun H hH => firstPlaces_ok (by omega)) ?_)) | (show GO _ _ _ _ _ (⟨some _, none, _⟩ :: _) _; first | refine go_op (hk := ?_) | (refine go_nw (hk := ?_); intro u; try simp only [llc, lln, lna, lza]) | (refine go_np (hk := ?_); intro id)) | (show GO _ _ _ _ _ (⟨none, none, _⟩ :: _) _; refine go_st (hk := ?_)) | (show GO _ _ _ _ _ (⟨_, some _, _⟩ :: _) _; first | refine go_in (hk := ?_) | refine go_out (hk := ?_) | refine go_void (hk := ?_)) | (show GK _ _ _ _ (blockK _ _ _); refine gk_past rfl ?_) | (show GC _ _ _ _ _ (.cond _ _ _) _; first | refine gc_yes (h1 := ?_) | refine gc_no (h1 := ?_))))
      refine go_yieldE rfl rfl (hy p hp' (by omega) v z) (fun z' => ?_)
      (repeat (first | refine gst (hk := ?_) | (show GO _ _ _ _ _ (⟨some _, none, .call _ _⟩ :: _) _; first | (refine go_callp rfl code_impl_firstPlaces.callable (fun H hH => firstPlaces_ok (by omega)) ?_)) | (show GO _ _ _ _ _ (⟨some _, none, _⟩ :: _) _; first | refine go_op (hk := ?_) | (refine go_nw (hk := ?_); intro u; try simp only [llc, lln, lna, lza]) | (refine go_np (hk := ?_); intro id)) | (show GO _ _ _ _ _ (⟨none, none, _⟩ :: _) _; refine go_st (hk := ?_)) | (show GO _ _ _ _ _ (⟨_, some _, _⟩ :: _) _; first | refine go_in (hk := ?_) | refine go_out (hk := ?_) | refine go_void (hk := ?_)) | (show GK _ _ _ _ (blockK _ _ _); refine gk_past rfl ?_) | (show GC _ _ _ _ _ (.cond _ _ _) _; first | refine gc_yes (h1 := ?_) | refine gc_no (h1 := ?_))))
      rw [show (!true) = false from rfl]
      (repeat (first | refine gst (hk := ?_) | (show GO _ _ _ _ _ (⟨some _, none, .call _ _⟩ :: _) _; first | (refine go_callp rfl code_impl_firstPlaces.callable (fun H hH => firstPlaces_ok (by omega)) ?_)) | (show GO _ _ _ _ _ (⟨some _, none, _⟩ :: _) _; first | refine go_op (hk := ?_) | (refine go_nw (hk := ?_); intro u; try simp only [llc, lln, lna, lza]) | (refine go_np (hk := ?_); intro id)) | (show GO _ _ _ _ _ (⟨none, none, _⟩ :: _) _; refine go_st (hk := ?_)) | (show GO _ _ _ _ _ (⟨_, some _, _⟩ :: _) _; first | refine go_in (hk := ?_) | refine go_out (hk := ?_) | refine go_void (hk := ?_)) | (show GK _ _ _ _ (blockK _ _ _); refine gk_past rfl ?_) | (show GC _ _ _ _ _ (.cond _ _ _) _; first | refine gc_yes (h1 := ?_) | refine gc_no (h1 := ?_))))
      exact gk_next (hk (p + 1, z') (by dsimp only; omega) (by dsimp only; omega)) (hs := sub_refl _)
    · (repeat (first | refine gst (hk := ?_) | (show GO _ _ _ _ _ (⟨some _, none, .call _ _⟩ :: _) _; first | (refine go_callp rfl code_impl_firstPlaces.callable (fun H hH => firstPlaces_ok (by omega)) ?_)) | (show GO _ _ _ _ _ (⟨some _, none, _⟩ :: _) _; first | refine go_op (hk := ?_) | (refine go_nw (hk := ?_); intro u; try simp only [llc, lln, lna, lza]) | (refine go_np (hk := ?_); intro id)) | (show GO _ _ _ _ _ (⟨none, none, _⟩ :: _) _; refine go_st (hk := ?_)) | (show GO _ _ _ _ _ (⟨_, some _, _⟩ :: _) _; first | refine go_in (hk := ?_) | refine go_out (hk := ?_) | refine go_void (hk := ?_)) | (show GK _ _ _ _ (blockK _ _ _); refine gk_past rfl ?_) | (show GC _ _ _ _ _ (.cond _ _ _) _; first | refine gc_yes (h1 := ?_) | refine gc_no (h1 := ?_))))
      have hk1 := hk (p + 1, z) (by dsimp only; omega) (by dsimp only; omega)
      dsimp only at hk1
      rw [hskip p hp' (by omega) z] at hk1
      exact gk_next hk1 (hs := sub_drop (sub_refl _))
  · have : p = 2 ^ (xs.length - 1) := by omega
    subst this
    (repeat (first | refine gst (hk := ?_) | (show GO _ _ _ _ _ (⟨some _, none, .call _ _⟩ :: _) _; first | (refine go_callp rfl code_impl_firstPlaces.callable (fun H hH => firstPlaces_ok (by omega)) ?_)) | (show GO _ _ _ _ _ (⟨some _, none, _⟩ :: _) _; first | refine go_op (hk := ?_) | (refine go_nw (hk := ?_); intro u; try simp only [llc, lln, lna, lza]) | (refine go_np (hk := ?_); intro id)) | (show GO _ _ _ _ _ (⟨none, none, _⟩ :: _) _; refine go_st (hk := ?_)) | (show GO _ _ _ _ _ (⟨_, some _, _⟩ :: _) _; first | refine go_in (hk := ?_) | refine go_out (hk := ?_) | refine go_void (hk := ?_)) | (show GK _ _ _ _ (blockK _ _ _); refine gk_past rfl ?_) | (show GC _ _ _ _ _ (.cond _ _ _) _; first | refine gc_yes (h1 := ?_) | refine gc_no (h1 := ?_))))
    exact gk_retn rfl fun H' hH => ⟨z, hH⟩

theorem maxZ {xs : List Int} (s k : Nat) (h : s < k) : max 0 (rgI xs s k) = rgI xs s k := by have := rg_nonneg (xs := xs) h; omega

def rmT (xs : List Int) (P : Nat) : Nat → Int
  | 0 => rgI xs 0 xs.length
  | p + 1 => if (pcS xs.length p).length ≤ P then min (rmT xs P p) (smC max 0 (rgI xs) (pcS xs.length p)) else rmT xs P p

theorem rmT_is {xs : List Int} {P : Nat} (hS : Steps xs) (hP : 1 ≤ P) : ∀ p, p ≤ 2 ^ (xs.length - 1) → (∃ q, q ≤ P ∧ Cuts max (rgI xs) q 0 xs.length (rmT xs P p)) ∧ ∀ p', p' < p → (pcS xs.length p').length ≤ P → rmT xs P p ≤ smC max 0 (rgI xs) (pcS xs.length p')
  | 0, _ => ⟨⟨1, hP, .one hS.2.1⟩, fun p' h => by omega⟩
  | p + 1, hp => by
    obtain ⟨ih1, ih2⟩ := rmT_is hS hP p (by omega)
    rw [rmT]; split
    · rename_i hl
      refine ⟨?_, fun p' h1 h2 => ?_⟩
      · rcases Int.le_total (rmT xs P p) (smC max 0 (rgI xs) (pcS xs.length p)) with h | h
        · rw [Int.min_eq_left h]; exact ih1
        · rw [Int.min_eq_right h]
          exact ⟨_, hl, pcS_cuts maxZ hS.2.1 hS.2.2 (by omega)⟩
      · rcases Nat.lt_or_ge p' p with h | h
        · have := ih2 p' h h2; omega
        · obtain rfl : p' = p := by omega
          omega
    · rename_i hl
      refine ⟨ih1, fun p' h1 h2 => ?_⟩
      rcases Nat.lt_or_ge p' p with h | h
      · exact ih2 p' h h2
      · obtain rfl : p' = p := by omega
        exact absurd h2 hl

theorem rmT_end {xs : List Int} {P : Nat} (hS : Steps xs) (hP : 1 ≤ P) : rmT xs P (2 ^ (xs.length - 1)) = lrV xs P := by
  obtain ⟨h1, h2⟩ := rmT_is hS hP _ (Nat.le_refl _)
  refine LeastC.uniq cstM ⟨h1, fun q w hq hw => ?_⟩ (lr_least hS hP)
  obtain ⟨p, g1, g2, g3⟩ := cuts_pcS maxZ hw hS.2.2
  have := h2 p g1 (by omega)
  rw [g3] at this
  exact this

theorem rows_nth {a : AV} {L : List (Nat × Nat)} {j : Nat} {q : Nat × Nat} (h : L[j]? = some q) : nthV (L.map fun q => wiV a q.1 q.2) j = wiV a q.1 q.2 := by
  have hi := (List.getElem?_eq_some_iff.1 h).1
  rw [show nthV (L.map fun q => wiV a q.1 q.2) j = (L.map fun q => wiV a q.1 q.2)[j]'(by rw [List.length_map]; exact hi) from nthA_of _]
  simp [(List.getElem?_eq_some_iff.1 h).2]

theorem smC_take {α : Type} {op : α → α → α} {z : α} {c : Nat → Nat → α} {L : List (Nat × Nat)} {j : Nat} {q : Nat × Nat} (h : L[j]? = some q) : smC op z c (L.take (j + 1)) = op (smC op z c (L.take j)) (c q.1 q.2) := by
  rw [List.take_add_one, h]
  exact smC_snoc

theorem smM_bd {xs : List Int} (hb : ∀ j, -30 ≤ nth xs j ∧ nth xs j ≤ 30) : ∀ (L : List (Nat × Nat)), (∀ z ∈ L, z.1 < z.2) → 0 ≤ smC max 0 (rgI xs) L ∧ smC max 0 (rgI xs) L ≤ 60 := by
  intro L
  suffices h : ∀ (L : List (Nat × Nat)) (v : Int), 0 ≤ v ∧ v ≤ 60 → (∀ z ∈ L, z.1 < z.2) → 0 ≤ L.foldl (fun v q => max v (rgI xs q.1 q.2)) v ∧ L.foldl (fun v q => max v (rgI xs q.1 q.2)) v ≤ 60 from h L 0 (by omega)
  intro L
  induction L with
  | nil => intro v hv _; exact hv
  | cons q L ih =>
    intro v hv hL
    have h1 := room_cuts hb (Cuts.one (hL q (by simp)))
    refine ih (max v (rgI xs q.1 q.2)) (by omega) fun z hz => hL z (by simp [hz])

theorem implRoomTried_ok {H : Heap} {a : AV} {xs : List Int} {p : Int} (ha : Ints H a xs) (hl : xs.length ≤ 1000000000) :
    ACalls Try.prog fn_impl_RoomTried [a, .int .i64 p] H fun r H' => r = .int .i64 (if PsOk xs p then lrV xs p.toNat else -1) ∧ H' = H := by
  refine ACalls.val ?_ rfl
  refine code_impl_RoomTried.go [.roI a xs.length xs] ⟨⟨rfl, ha⟩, trivial⟩ (by simp) ?_
  unfold mc_impl_RoomTried
  (repeat (first | refine gst (hk := ?_) | (with_reducible refine gc_drq ?_; intro _) | (show GO _ _ _ _ _ (⟨some _, none, _⟩ :: _) _; first | refine go_op (hk := ?_) | (refine go_nw (hk := ?_); intro u; try simp only [llc, lln, lna, lza]) | (refine go_np (hk := ?_); intro id)) | (show GQ _ _ _ _ _ _ _ (⟨some _, none, _⟩ :: _) _; first | refine gq_op (hk := ?_) | (refine gq_nw (hk := ?_); intro u; try simp only [llc, lln, lna, lza])) | (show GO _ _ _ _ _ (⟨none, none, _⟩ :: _) _; refine go_st (hk := ?_)) | (show GO _ _ _ _ _ (⟨_, some _, _⟩ :: _) _; first | refine go_in (hk := ?_) | refine go_out (hk := ?_) | refine go_void (hk := ?_)) | (show GQ _ _ _ _ _ _ _ (⟨_, some _, _⟩ :: _) _; first | refine gq_in (hk := ?_) | refine gq_out (hk := ?_) | refine gq_void (hk := ?_)) | (show GK _ _ _ _ (blockK _ _ _); refine gk_past rfl ?_) | (show GC _ _ _ _ _ (.cond _ _ _) _; first | refine gc_yes (h1 := ?_) | refine gc_no (h1 := ?_))))
  refine go_callp rfl code_impl_validPieces.callable (fun H hH => validPieces_ok (hH.ints (by exact Has.auto)) hl) ?_
  (repeat (first | refine gst (hk := ?_) | (with_reducible refine gc_drq ?_; intro _) | (show GO _ _ _ _ _ (⟨some _, none, _⟩ :: _) _; first | refine go_op (hk := ?_) | (refine go_nw (hk := ?_); intro u; try simp only [llc, lln, lna, lza]) | (refine go_np (hk := ?_); intro id)) | (show GQ _ _ _ _ _ _ _ (⟨some _, none, _⟩ :: _) _; first | refine gq_op (hk := ?_) | (refine gq_nw (hk := ?_); intro u; try simp only [llc, lln, lna, lza])) | (show GO _ _ _ _ _ (⟨none, none, _⟩ :: _) _; refine go_st (hk := ?_)) | (show GO _ _ _ _ _ (⟨_, some _, _⟩ :: _) _; first | refine go_in (hk := ?_) | refine go_out (hk := ?_) | refine go_void (hk := ?_)) | (show GQ _ _ _ _ _ _ _ (⟨_, some _, _⟩ :: _) _; first | refine gq_in (hk := ?_) | refine gq_out (hk := ?_) | refine gq_void (hk := ?_)) | (show GK _ _ _ _ (blockK _ _ _); refine gk_past rfl ?_) | (show GC _ _ _ _ _ (.cond _ _ _) _; first | refine gc_yes (h1 := ?_) | refine gc_no (h1 := ?_))))
  refine gc_cond rfl (fun h1 => ?_) (fun h1 => ?_)
  · (repeat (first | refine gst (hk := ?_) | (with_reducible refine gc_drq ?_; intro _) | (show GO _ _ _ _ _ (⟨some _, none, _⟩ :: _) _; first | refine go_op (hk := ?_) | (refine go_nw (hk := ?_); intro u; try simp only [llc, lln, lna, lza]) | (refine go_np (hk := ?_); intro id)) | (show GQ _ _ _ _ _ _ _ (⟨some _, none, _⟩ :: _) _; first | refine gq_op (hk := ?_) | (refine gq_nw (hk := ?_); intro u; try simp only [llc, lln, lna, lza])) | (show GO _ _ _ _ _ (⟨none, none, _⟩ :: _) _; refine go_st (hk := ?_)) | (show GO _ _ _ _ _ (⟨_, some _, _⟩ :: _) _; first | refine go_in (hk := ?_) | refine go_out (hk := ?_) | refine go_void (hk := ?_)) | (show GQ _ _ _ _ _ _ _ (⟨_, some _, _⟩ :: _) _; first | refine gq_in (hk := ?_) | refine gq_out (hk := ?_) | refine gq_void (hk := ?_)) | (show GK _ _ _ _ (blockK _ _ _); refine gk_past rfl ?_) | (show GC _ _ _ _ _ (.cond _ _ _) _; first | refine gc_yes (h1 := ?_) | refine gc_no (h1 := ?_))))
    exact gk_ret rfl fun H' hH => ⟨by rw [if_neg h1]; rfl, hH.leE⟩
  have hP := Decidable.not_not.1 h1
  have hS := hP.1
  have hn := hS.2.2
  have hn1 := hS.2.1
  obtain ⟨P, rfl⟩ : ∃ p' : Nat, p = (p' : Int) := ⟨p.toNat, by have := hP.2; omega⟩
  have hp1 : 1 ≤ P := by have := hP.2; omega
  rw [if_pos hP]
  simp only [Int.toNat_natCast]
  rw [← rmT_end hS hp1]
  (repeat (first | refine gst (hk := ?_) | (with_reducible refine gc_drq ?_; intro _) | (show GO _ _ _ _ _ (⟨some _, none, _⟩ :: _) _; first | refine go_op (hk := ?_) | (refine go_nw (hk := ?_); intro u; try simp only [llc, lln, lna, lza]) | (refine go_np (hk := ?_); intro id)) | (show GQ _ _ _ _ _ _ _ (⟨some _, none, _⟩ :: _) _; first | refine gq_op (hk := ?_) | (refine gq_nw (hk := ?_); intro u; try simp only [llc, lln, lna, lza])) | (show GO _ _ _ _ _ (⟨none, none, _⟩ :: _) _; refine go_st (hk := ?_)) | (show GO _ _ _ _ _ (⟨_, some _, _⟩ :: _) _; first | refine go_in (hk := ?_) | refine go_out (hk := ?_) | refine go_void (hk := ?_)) | (show GQ _ _ _ _ _ _ _ (⟨_, some _, _⟩ :: _) _; first | refine gq_in (hk := ?_) | refine gq_out (hk := ?_) | refine gq_void (hk := ?_)) | (show GK _ _ _ _ (blockK _ _ _); refine gk_past rfl ?_) | (show GC _ _ _ _ _ (.cond _ _ _) _; first | refine gc_yes (h1 := ?_) | refine gc_no (h1 := ?_))))
  refine go_callp rfl code_impl_roomOf.callable (fun H hH => roomOf_ok (hH.ints (by exact Has.auto)) hS.x hn1 hn) ?_
  (repeat (first | refine gst (hk := ?_) | (with_reducible refine gc_drq ?_; intro _) | (show GO _ _ _ _ _ (⟨some _, none, _⟩ :: _) _; first | refine go_op (hk := ?_) | (refine go_nw (hk := ?_); intro u; try simp only [llc, lln, lna, lza]) | (refine go_np (hk := ?_); intro id)) | (show GQ _ _ _ _ _ _ _ (⟨some _, none, _⟩ :: _) _; first | refine gq_op (hk := ?_) | (refine gq_nw (hk := ?_); intro u; try simp only [llc, lln, lna, lza])) | (show GO _ _ _ _ _ (⟨none, none, _⟩ :: _) _; refine go_st (hk := ?_)) | (show GO _ _ _ _ _ (⟨_, some _, _⟩ :: _) _; first | refine go_in (hk := ?_) | refine go_out (hk := ?_) | refine go_void (hk := ?_)) | (show GQ _ _ _ _ _ _ _ (⟨_, some _, _⟩ :: _) _; first | refine gq_in (hk := ?_) | refine gq_out (hk := ?_) | refine gq_void (hk := ?_)) | (show GK _ _ _ _ (blockK _ _ _); refine gk_past rfl ?_) | (show GC _ _ _ _ _ (.cond _ _ _) _; first | refine gc_yes (h1 := ?_) | refine gc_no (h1 := ?_))))
  revert id; intro i5
  refine go_callg (γ := Nat × Nat) (V := fun g => .func fn_impl_allCuts_1 [.ptr g.1 0, .ptr g.2 0]) (T := fun g => acS g.1 g.2 a xs P ++ [cel i5 (.int .i64 (rmT xs P 0))]) (Φ := fun _ => True) rfl code_impl_allCuts.callable (fun H hH => (allCuts_ok (P := (P : Int)) hH (hH.ints (by exact Has.auto))).mono fun r H' ⟨g, h1, h2, h3⟩ => ⟨g, h1, h2.sub (by show Sub [cel g.1 a, cel g.2 (.int .i64 (P : Int)), ⟨.cell, .ptr i5 0, _, _, _⟩, .roI a xs.length xs] _; exact Sub.auto), h3⟩) ?_
  rintro ⟨i1, i2⟩ _
  dsimp only
  (repeat (first | refine gst (hk := ?_) | (with_reducible refine gc_drq ?_; intro _) | (show GO _ _ _ _ _ (⟨some _, none, _⟩ :: _) _; first | refine go_op (hk := ?_) | (refine go_nw (hk := ?_); intro u; try simp only [llc, lln, lna, lza]) | (refine go_np (hk := ?_); intro id)) | (show GQ _ _ _ _ _ _ _ (⟨some _, none, _⟩ :: _) _; first | refine gq_op (hk := ?_) | (refine gq_nw (hk := ?_); intro u; try simp only [llc, lln, lna, lza])) | (show GO _ _ _ _ _ (⟨none, none, _⟩ :: _) _; refine go_st (hk := ?_)) | (show GO _ _ _ _ _ (⟨_, some _, _⟩ :: _) _; first | refine go_in (hk := ?_) | refine go_out (hk := ?_) | refine go_void (hk := ?_)) | (show GQ _ _ _ _ _ _ _ (⟨_, some _, _⟩ :: _) _; first | refine gq_in (hk := ?_) | refine gq_out (hk := ?_) | refine gq_void (hk := ?_)) | (show GK _ _ _ _ (blockK _ _ _); refine gk_past rfl ?_) | (show GC _ _ _ _ _ (.cond _ _ _) _; first | refine gc_yes (h1 := ?_) | refine gc_no (h1 := ?_))))
  refine gc_rfuncE (ι := Nat × Option AV) (γ := Unit) (f := fn_impl_allCuts_1) (caps := [.ptr i1 0, .ptr i2 0]) (fun t _ => (match t.2 with | some v => [rowsC v a (pcS xs.length t.1)] | none => []) ++ (acS i1 i2 a xs P ++ [cel i5 (.int .i64 (rmT xs P t.1))])) (fun s t vs => ∃ p v, s = (p, some v) ∧ t = (p + 1, none) ∧ p < 2 ^ (xs.length - 1) ∧ (pcS xs.length p).length ≤ P ∧ vs = [v]) (0, none) (2 ^ (xs.length - 1), none) () rfl code_impl_allCuts_1.callable (sub_refl _) ?_ ?_ ?_
  · intro A' yd H hy hS0
    exact allCuts1_ok hn1 hn (fun p _ => [cel i5 (.int .i64 (rmT xs P p))]) (fun p hp hlt z => by rw [rmT, if_neg (by omega)]) (fun p hp hle v z H' hH' => by
      have := hy (p, some v) (p + 1, none) [v] ⟨p, v, rfl, rfl, hp, hle, rfl⟩ [] () H' (by rw [List.append_nil]; exact hH')
      simpa using this) () hS0
  · rintro s t vs ⟨p, v, rfl, rfl, hp, hle, rfl⟩
    refine ⟨rfl, fun F u ob1 ob2 Q1 Q2 g1 g2 => ?_⟩
    have hmem := bcS_mem (p + 2 ^ (xs.length - 1)) xs.length
    have hlen := (bcS_le (p + 2 ^ (xs.length - 1)) xs.length).2
    rw [show (bcS (p + 2 ^ (xs.length - 1)) xs.length).2 = pcS xs.length p from rfl] at hmem hlen
    simp only [List.cons_append, List.nil_append] at g2 ⊢
    rw [rmT, if_pos hle] at g2
    generalize pcS xs.length p = L at *
    (repeat (first | refine gst (hk := ?_) | (with_reducible refine gc_drq ?_; intro _) | (show GO _ _ _ _ _ (⟨some _, none, _⟩ :: _) _; first | refine go_op (hk := ?_) | (refine go_nw (hk := ?_); intro u; try simp only [llc, lln, lna, lza]) | (refine go_np (hk := ?_); intro id)) | (show GQ _ _ _ _ _ _ _ (⟨some _, none, _⟩ :: _) _; first | refine gq_op (hk := ?_) | (refine gq_nw (hk := ?_); intro u; try simp only [llc, lln, lna, lza])) | (show GO _ _ _ _ _ (⟨none, none, _⟩ :: _) _; refine go_st (hk := ?_)) | (show GO _ _ _ _ _ (⟨_, some _, _⟩ :: _) _; first | refine go_in (hk := ?_) | refine go_out (hk := ?_) | refine go_void (hk := ?_)) | (show GQ _ _ _ _ _ _ _ (⟨_, some _, _⟩ :: _) _; first | refine gq_in (hk := ?_) | refine gq_out (hk := ?_) | refine gq_void (hk := ?_)) | (show GK _ _ _ _ (blockK _ _ _); refine gk_past rfl ?_) | (show GC _ _ _ _ _ (.cond _ _ _) _; first | refine gc_yes (h1 := ?_) | refine gc_no (h1 := ?_))))
    refine g1 _ _ ?_
    (repeat (first | refine gst (hk := ?_) | (with_reducible refine gc_drq ?_; intro _) | (show GO _ _ _ _ _ (⟨some _, none, _⟩ :: _) _; first | refine go_op (hk := ?_) | (refine go_nw (hk := ?_); intro u; try simp only [llc, lln, lna, lza]) | (refine go_np (hk := ?_); intro id)) | (show GQ _ _ _ _ _ _ _ (⟨some _, none, _⟩ :: _) _; first | refine gq_op (hk := ?_) | (refine gq_nw (hk := ?_); intro u; try simp only [llc, lln, lna, lza])) | (show GO _ _ _ _ _ (⟨none, none, _⟩ :: _) _; refine go_st (hk := ?_)) | (show GO _ _ _ _ _ (⟨_, some _, _⟩ :: _) _; first | refine go_in (hk := ?_) | refine go_out (hk := ?_) | refine go_void (hk := ?_)) | (show GQ _ _ _ _ _ _ _ (⟨_, some _, _⟩ :: _) _; first | refine gq_in (hk := ?_) | refine gq_out (hk := ?_) | refine gq_void (hk := ?_)) | (show GK _ _ _ _ (blockK _ _ _); refine gk_past rfl ?_) | (show GC _ _ _ _ _ (.cond _ _ _) _; first | refine gc_yes (h1 := ?_) | refine gc_no (h1 := ?_))))
    have hbd := smM_bd hS.x
    refine gc_up L.length (fun j => [(5, .ptr i5 0), (7, .int .i64 (smC max 0 (rgI xs) (L.take j))), (20, v), (21, .int .i64 (L.length : Int)), (22, .int .i64 (j : Int))]) (fun _ => rowsC v a L :: cel i1 a :: cel i2 (.int .i64 (P : Int)) :: .roI a xs.length xs :: cel i5 (.int .i64 (rmT xs P p)) :: F) (hS := sub_refl _) (hb := ?_)
    intro j hj I ν m hk
    (repeat (first | refine gst (hk := ?_) | (with_reducible refine gc_drq ?_; intro _) | (show GO _ _ _ _ _ (⟨some _, none, _⟩ :: _) _; first | refine go_op (hk := ?_) | (refine go_nw (hk := ?_); intro u; try simp only [llc, lln, lna, lza]) | (refine go_np (hk := ?_); intro id)) | (show GQ _ _ _ _ _ _ _ (⟨some _, none, _⟩ :: _) _; first | refine gq_op (hk := ?_) | (refine gq_nw (hk := ?_); intro u; try simp only [llc, lln, lna, lza])) | (show GO _ _ _ _ _ (⟨none, none, _⟩ :: _) _; refine go_st (hk := ?_)) | (show GO _ _ _ _ _ (⟨_, some _, _⟩ :: _) _; first | refine go_in (hk := ?_) | refine go_out (hk := ?_) | refine go_void (hk := ?_)) | (show GQ _ _ _ _ _ _ _ (⟨_, some _, _⟩ :: _) _; first | refine gq_in (hk := ?_) | refine gq_out (hk := ?_) | refine gq_void (hk := ?_)) | (show GK _ _ _ _ (blockK _ _ _); refine gk_past rfl ?_) | (show GC _ _ _ _ _ (.cond _ _ _) _; first | refine gc_yes (h1 := ?_) | refine gc_no (h1 := ?_))))
    refine gc_cond rfl (fun h => ?_) (fun h => ?_)
    · have hk := hk (by omega)
      obtain ⟨q, hq⟩ : ∃ q, L[j]? = some q := ⟨L[j]'(by omega), List.getElem?_eq_getElem (by omega)⟩
      have hqm := hmem q (List.mem_of_getElem? hq)
      rw [smC_take hq] at hk
      have hwl := win_len2 (xs := xs) (i := q.1) hqm.2
      (repeat (first | refine gst (hk := ?_) | (with_reducible refine gc_drq ?_; intro _) | (show GO _ _ _ _ _ (⟨some _, none, _⟩ :: _) _; first | refine go_op (hk := ?_) | (refine go_nw (hk := ?_); intro u; try simp only [llc, lln, lna, lza]) | (refine go_np (hk := ?_); intro id)) | (show GQ _ _ _ _ _ _ _ (⟨some _, none, _⟩ :: _) _; first | refine gq_op (hk := ?_) | (refine gq_nw (hk := ?_); intro u; try simp only [llc, lln, lna, lza])) | (show GO _ _ _ _ _ (⟨none, none, _⟩ :: _) _; refine go_st (hk := ?_)) | (show GO _ _ _ _ _ (⟨_, some _, _⟩ :: _) _; first | refine go_in (hk := ?_) | refine go_out (hk := ?_) | refine go_void (hk := ?_)) | (show GQ _ _ _ _ _ _ _ (⟨_, some _, _⟩ :: _) _; first | refine gq_in (hk := ?_) | refine gq_out (hk := ?_) | refine gq_void (hk := ?_)) | (show GK _ _ _ _ (blockK _ _ _); refine gk_past rfl ?_) | (show GC _ _ _ _ _ (.cond _ _ _) _; first | refine gc_yes (h1 := ?_) | refine gc_no (h1 := ?_))))
      refine go_is rfl (stp_ldV (i := j) rfl (by exact Has.auto) (by simp) (by simp; omega)) ?_
      rw [rows_nth hq]
      (repeat (first | refine gst (hk := ?_) | (with_reducible refine gc_drq ?_; intro _) | (show GO _ _ _ _ _ (⟨some _, none, _⟩ :: _) _; first | refine go_op (hk := ?_) | (refine go_nw (hk := ?_); intro u; try simp only [llc, lln, lna, lza]) | (refine go_np (hk := ?_); intro id)) | (show GQ _ _ _ _ _ _ _ (⟨some _, none, _⟩ :: _) _; first | refine gq_op (hk := ?_) | (refine gq_nw (hk := ?_); intro u; try simp only [llc, lln, lna, lza])) | (show GO _ _ _ _ _ (⟨none, none, _⟩ :: _) _; refine go_st (hk := ?_)) | (show GO _ _ _ _ _ (⟨_, some _, _⟩ :: _) _; first | refine go_in (hk := ?_) | refine go_out (hk := ?_) | refine go_void (hk := ?_)) | (show GQ _ _ _ _ _ _ _ (⟨_, some _, _⟩ :: _) _; first | refine gq_in (hk := ?_) | refine gq_out (hk := ?_) | refine gq_void (hk := ?_)) | (show GK _ _ _ _ (blockK _ _ _); refine gk_past rfl ?_) | (show GC _ _ _ _ _ (.cond _ _ _) _; first | refine gc_yes (h1 := ?_) | refine gc_no (h1 := ?_))))
      refine go_callp rfl code_impl_roomOf.callable (fun H hH => roomOf_ok (ints_wi (hH.ints (v := a) (n := xs.length) (xs := xs) (by exact Has.auto)) (by omega)) (hS.win q.1 q.2) (by omega) (by omega)) ?_
      rw [rg_win hqm.1 hqm.2]
      (repeat (first | refine gst (hk := ?_) | (with_reducible refine gc_drq ?_; intro _) | (show GO _ _ _ _ _ (⟨some _, none, _⟩ :: _) _; first | refine go_op (hk := ?_) | (refine go_nw (hk := ?_); intro u; try simp only [llc, lln, lna, lza]) | (refine go_np (hk := ?_); intro id)) | (show GQ _ _ _ _ _ _ _ (⟨some _, none, _⟩ :: _) _; first | refine gq_op (hk := ?_) | (refine gq_nw (hk := ?_); intro u; try simp only [llc, lln, lna, lza])) | (show GO _ _ _ _ _ (⟨none, none, _⟩ :: _) _; refine go_st (hk := ?_)) | (show GO _ _ _ _ _ (⟨_, some _, _⟩ :: _) _; first | refine go_in (hk := ?_) | refine go_out (hk := ?_) | refine go_void (hk := ?_)) | (show GQ _ _ _ _ _ _ _ (⟨_, some _, _⟩ :: _) _; first | refine gq_in (hk := ?_) | refine gq_out (hk := ?_) | refine gq_void (hk := ?_)) | (show GK _ _ _ _ (blockK _ _ _); refine gk_past rfl ?_) | (show GC _ _ _ _ _ (.cond _ _ _) _; first | refine gc_yes (h1 := ?_) | refine gc_no (h1 := ?_))))
      exact gk_next hk (hs := sub_refl _)
    · obtain rfl : j = L.length := by omega
      rw [List.take_length]
      (repeat (first | refine gst (hk := ?_) | (with_reducible refine gc_drq ?_; intro _) | (show GO _ _ _ _ _ (⟨some _, none, _⟩ :: _) _; first | refine go_op (hk := ?_) | (refine go_nw (hk := ?_); intro u; try simp only [llc, lln, lna, lza]) | (refine go_np (hk := ?_); intro id)) | (show GQ _ _ _ _ _ _ _ (⟨some _, none, _⟩ :: _) _; first | refine gq_op (hk := ?_) | (refine gq_nw (hk := ?_); intro u; try simp only [llc, lln, lna, lza])) | (show GO _ _ _ _ _ (⟨none, none, _⟩ :: _) _; refine go_st (hk := ?_)) | (show GO _ _ _ _ _ (⟨_, some _, _⟩ :: _) _; first | refine go_in (hk := ?_) | refine go_out (hk := ?_) | refine go_void (hk := ?_)) | (show GQ _ _ _ _ _ _ _ (⟨_, some _, _⟩ :: _) _; first | refine gq_in (hk := ?_) | refine gq_out (hk := ?_) | refine gq_void (hk := ?_)) | (show GK _ _ _ _ (blockK _ _ _); refine gk_past rfl ?_) | (show GC _ _ _ _ _ (.cond _ _ _) _; first | refine gc_yes (h1 := ?_) | refine gc_no (h1 := ?_))))
      exact gk_next (F := []) (g2 [] ()) (hs := by (repeat (refine Sub.cons (by exact Sel.auto) ?_)); exact sub_drop (sub_refl _))
  · intro z
    (repeat (first | refine gst (hk := ?_) | (with_reducible refine gc_drq ?_; intro _) | (show GO _ _ _ _ _ (⟨some _, none, _⟩ :: _) _; first | refine go_op (hk := ?_) | (refine go_nw (hk := ?_); intro u; try simp only [llc, lln, lna, lza]) | (refine go_np (hk := ?_); intro id)) | (show GQ _ _ _ _ _ _ _ (⟨some _, none, _⟩ :: _) _; first | refine gq_op (hk := ?_) | (refine gq_nw (hk := ?_); intro u; try simp only [llc, lln, lna, lza])) | (show GO _ _ _ _ _ (⟨none, none, _⟩ :: _) _; refine go_st (hk := ?_)) | (show GO _ _ _ _ _ (⟨_, some _, _⟩ :: _) _; first | refine go_in (hk := ?_) | refine go_out (hk := ?_) | refine go_void (hk := ?_)) | (show GQ _ _ _ _ _ _ _ (⟨_, some _, _⟩ :: _) _; first | refine gq_in (hk := ?_) | refine gq_out (hk := ?_) | refine gq_void (hk := ?_)) | (show GK _ _ _ _ (blockK _ _ _); refine gk_past rfl ?_) | (show GC _ _ _ _ _ (.cond _ _ _) _; first | refine gc_yes (h1 := ?_) | refine gc_no (h1 := ?_))))
    exact gk_ret rfl fun H' hH => ⟨rfl, hH.leE⟩

theorem lawFnRoomTried_ok {H : Heap} {a : AV} {bs : List Int} (ha : Vals H a 1 bs.length (bs.map (.int .u8))) (hw : ∀ x ∈ bs, (Lit.int .u8 x).wf = true) : ACalls Try.prog fn_laws_FnRoomTried [a] H fun r _ => r = .bool true := by
  have hb := bytes_of hw
  refine code_laws_FnRoomTried.go [byt a bs] ⟨⟨rfl, ha⟩, trivial⟩ (by simp) ?_
  unfold mc_laws_FnRoomTried
  (repeat (first | refine gst (hk := ?_) | (show GO _ _ _ _ _ (⟨some _, none, .call _ _⟩ :: _) _; first | (refine go_callg rfl code_spec_DrawRoomTried.callable (fun H hH => drawRoomTried_ok hH (by exact Has.auto) (by assumption) (by omega)) ?_; intro g hg) | (refine go_callp rfl code_impl_RoomTried.callable (fun H hH => implRoomTried_ok (hH.ints (by exact Has.auto)) (by omega)) ?_) | (refine go_callp rfl code_spec_RoomTried.callable (fun H hH => specRoomTried_ok (hH.ints (by exact Has.auto)) (by omega)) ?_) | (refine go_calln rfl code_laws_turned.callable (fun H hH => turned_ok (hH.ints (by exact Has.auto)) (by omega)) ?_; intro u)) | (show GO _ _ _ _ _ (⟨some _, none, _⟩ :: _) _; first | refine go_op (hk := ?_) | (refine go_nw (hk := ?_); intro u; try simp only [llc, lln, lna, lza]) | (refine go_np (hk := ?_); intro id)) | (show GO _ _ _ _ _ (⟨none, none, _⟩ :: _) _; refine go_st (hk := ?_)) | (show GO _ _ _ _ _ (⟨_, some _, _⟩ :: _) _; first | refine go_in (hk := ?_) | refine go_out (hk := ?_) | refine go_void (hk := ?_)) | (show GK _ _ _ _ (blockK _ _ _); refine gk_past rfl ?_) | (show GC _ _ _ _ _ (.cond _ _ _) _; first | refine gc_yes (h1 := ?_) | refine gc_no (h1 := ?_))))
  refine gc_cond rfl (fun h => ?_) (fun h => ?_)
  · (repeat (first | refine gst (hk := ?_) | (show GO _ _ _ _ _ (⟨some _, none, .call _ _⟩ :: _) _; first | (refine go_callg rfl code_spec_DrawRoomTried.callable (fun H hH => drawRoomTried_ok hH (by exact Has.auto) (by assumption) (by omega)) ?_; intro g hg) | (refine go_callp rfl code_impl_RoomTried.callable (fun H hH => implRoomTried_ok (hH.ints (by exact Has.auto)) (by omega)) ?_) | (refine go_callp rfl code_spec_RoomTried.callable (fun H hH => specRoomTried_ok (hH.ints (by exact Has.auto)) (by omega)) ?_) | (refine go_calln rfl code_laws_turned.callable (fun H hH => turned_ok (hH.ints (by exact Has.auto)) (by omega)) ?_; intro u)) | (show GO _ _ _ _ _ (⟨some _, none, _⟩ :: _) _; first | refine go_op (hk := ?_) | (refine go_nw (hk := ?_); intro u; try simp only [llc, lln, lna, lza]) | (refine go_np (hk := ?_); intro id)) | (show GO _ _ _ _ _ (⟨none, none, _⟩ :: _) _; refine go_st (hk := ?_)) | (show GO _ _ _ _ _ (⟨_, some _, _⟩ :: _) _; first | refine go_in (hk := ?_) | refine go_out (hk := ?_) | refine go_void (hk := ?_)) | (show GK _ _ _ _ (blockK _ _ _); refine gk_past rfl ?_) | (show GC _ _ _ _ _ (.cond _ _ _) _; first | refine gc_yes (h1 := ?_) | refine gc_no (h1 := ?_))))
    exact gk_ret rfl fun H' hH => rfl
  (repeat (first | refine gst (hk := ?_) | (show GO _ _ _ _ _ (⟨some _, none, .call _ _⟩ :: _) _; first | (refine go_callg rfl code_spec_DrawRoomTried.callable (fun H hH => drawRoomTried_ok hH (by exact Has.auto) (by assumption) (by omega)) ?_; intro g hg) | (refine go_callp rfl code_impl_RoomTried.callable (fun H hH => implRoomTried_ok (hH.ints (by exact Has.auto)) (by omega)) ?_) | (refine go_callp rfl code_spec_RoomTried.callable (fun H hH => specRoomTried_ok (hH.ints (by exact Has.auto)) (by omega)) ?_) | (refine go_calln rfl code_laws_turned.callable (fun H hH => turned_ok (hH.ints (by exact Has.auto)) (by omega)) ?_; intro u)) | (show GO _ _ _ _ _ (⟨some _, none, _⟩ :: _) _; first | refine go_op (hk := ?_) | (refine go_nw (hk := ?_); intro u; try simp only [llc, lln, lna, lza]) | (refine go_np (hk := ?_); intro id)) | (show GO _ _ _ _ _ (⟨none, none, _⟩ :: _) _; refine go_st (hk := ?_)) | (show GO _ _ _ _ _ (⟨_, some _, _⟩ :: _) _; first | refine go_in (hk := ?_) | refine go_out (hk := ?_) | refine go_void (hk := ?_)) | (show GK _ _ _ _ (blockK _ _ _); refine gk_past rfl ?_) | (show GC _ _ _ _ _ (.cond _ _ _) _; first | refine gc_yes (h1 := ?_) | refine gc_no (h1 := ?_))))
  obtain ⟨⟨gu, xs, gq⟩, p⟩ := g
  simp only at hg ⊢
  have hb2 := hg.2.1.mono' (c := 1000000) (by omega)
  (repeat (first | refine gst (hk := ?_) | (show GO _ _ _ _ _ (⟨some _, none, .call _ _⟩ :: _) _; first | (refine go_callg rfl code_spec_DrawRoomTried.callable (fun H hH => drawRoomTried_ok hH (by exact Has.auto) (by assumption) (by omega)) ?_; intro g hg) | (refine go_callp rfl code_impl_RoomTried.callable (fun H hH => implRoomTried_ok (hH.ints (by exact Has.auto)) (by omega)) ?_) | (refine go_callp rfl code_spec_RoomTried.callable (fun H hH => specRoomTried_ok (hH.ints (by exact Has.auto)) (by omega)) ?_) | (refine go_calln rfl code_laws_turned.callable (fun H hH => turned_ok (hH.ints (by exact Has.auto)) (by omega)) ?_; intro u)) | (show GO _ _ _ _ _ (⟨some _, none, _⟩ :: _) _; first | refine go_op (hk := ?_) | (refine go_nw (hk := ?_); intro u; try simp only [llc, lln, lna, lza]) | (refine go_np (hk := ?_); intro id)) | (show GO _ _ _ _ _ (⟨none, none, _⟩ :: _) _; refine go_st (hk := ?_)) | (show GO _ _ _ _ _ (⟨_, some _, _⟩ :: _) _; first | refine go_in (hk := ?_) | refine go_out (hk := ?_) | refine go_void (hk := ?_)) | (show GK _ _ _ _ (blockK _ _ _); refine gk_past rfl ?_) | (show GC _ _ _ _ _ (.cond _ _ _) _; first | refine gc_yes (h1 := ?_) | refine gc_no (h1 := ?_))))
  refine go_split 22 rfl (fun hc => absurd rfl hc) (fun _ => ?_)
  (repeat (first | refine gst (hk := ?_) | (show GO _ _ _ _ _ (⟨some _, none, .call _ _⟩ :: _) _; first | (refine go_callg rfl code_spec_DrawRoomTried.callable (fun H hH => drawRoomTried_ok hH (by exact Has.auto) (by assumption) (by omega)) ?_; intro g hg) | (refine go_callp rfl code_impl_RoomTried.callable (fun H hH => implRoomTried_ok (hH.ints (by exact Has.auto)) (by omega)) ?_) | (refine go_callp rfl code_spec_RoomTried.callable (fun H hH => specRoomTried_ok (hH.ints (by exact Has.auto)) (by omega)) ?_) | (refine go_calln rfl code_laws_turned.callable (fun H hH => turned_ok (hH.ints (by exact Has.auto)) (by omega)) ?_; intro u)) | (show GO _ _ _ _ _ (⟨some _, none, _⟩ :: _) _; first | refine go_op (hk := ?_) | (refine go_nw (hk := ?_); intro u; try simp only [llc, lln, lna, lza]) | (refine go_np (hk := ?_); intro id)) | (show GO _ _ _ _ _ (⟨none, none, _⟩ :: _) _; refine go_st (hk := ?_)) | (show GO _ _ _ _ _ (⟨_, some _, _⟩ :: _) _; first | refine go_in (hk := ?_) | refine go_out (hk := ?_) | refine go_void (hk := ?_)) | (show GK _ _ _ _ (blockK _ _ _); refine gk_past rfl ?_) | (show GC _ _ _ _ _ (.cond _ _ _) _; first | refine gc_yes (h1 := ?_) | refine gc_no (h1 := ?_))))
  refine gc_cond rfl (fun h2 => ?_) (fun h2 => ?_)
  · (repeat (first | refine gst (hk := ?_) | (show GO _ _ _ _ _ (⟨some _, none, .call _ _⟩ :: _) _; first | (refine go_callg rfl code_spec_DrawRoomTried.callable (fun H hH => drawRoomTried_ok hH (by exact Has.auto) (by assumption) (by omega)) ?_; intro g hg) | (refine go_callp rfl code_impl_RoomTried.callable (fun H hH => implRoomTried_ok (hH.ints (by exact Has.auto)) (by omega)) ?_) | (refine go_callp rfl code_spec_RoomTried.callable (fun H hH => specRoomTried_ok (hH.ints (by exact Has.auto)) (by omega)) ?_) | (refine go_calln rfl code_laws_turned.callable (fun H hH => turned_ok (hH.ints (by exact Has.auto)) (by omega)) ?_; intro u)) | (show GO _ _ _ _ _ (⟨some _, none, _⟩ :: _) _; first | refine go_op (hk := ?_) | (refine go_nw (hk := ?_); intro u; try simp only [llc, lln, lna, lza]) | (refine go_np (hk := ?_); intro id)) | (show GO _ _ _ _ _ (⟨none, none, _⟩ :: _) _; refine go_st (hk := ?_)) | (show GO _ _ _ _ _ (⟨_, some _, _⟩ :: _) _; first | refine go_in (hk := ?_) | refine go_out (hk := ?_) | refine go_void (hk := ?_)) | (show GK _ _ _ _ (blockK _ _ _); refine gk_past rfl ?_) | (show GC _ _ _ _ _ (.cond _ _ _) _; first | refine gc_yes (h1 := ?_) | refine gc_no (h1 := ?_))))
    exact gk_ret rfl fun H' hH => by simp [tupleOf]
  have hO : PsOk xs p := Decidable.byContradiction fun hc => h2 (by rw [if_neg hc]; decide)
  have hO' : PsOk xs.reverse p := ⟨hO.1.back, hO.2⟩
  have hp := hO.2
  have q1 : 1 ≤ p.toNat := by omega
  have g1 := lr_bd hO.1 q1
  have g2 := lr_turn hO.1 q1
  have g3 : (if PsOk xs (p + 1) then lrV xs (p + 1).toNat else -1) ≤ lrV xs p.toNat := by
    split
    · exact lr_more hO.1 q1 (by omega)
    · omega
  have hrl : xs.reverse.length ≤ 21 := by rw [List.length_reverse]; exact hg.1
  rw [if_pos hO]
  (repeat (first | refine gst (hk := ?_) | (show GO _ _ _ _ _ (⟨some _, none, .call _ _⟩ :: _) _; first | (refine go_callg rfl code_spec_DrawRoomTried.callable (fun H hH => drawRoomTried_ok hH (by exact Has.auto) (by assumption) (by omega)) ?_; intro g hg) | (refine go_callp rfl code_impl_RoomTried.callable (fun H hH => implRoomTried_ok (hH.ints (by exact Has.auto)) (by omega)) ?_) | (refine go_callp rfl code_spec_RoomTried.callable (fun H hH => specRoomTried_ok (hH.ints (by exact Has.auto)) (by omega)) ?_) | (refine go_calln rfl code_laws_turned.callable (fun H hH => turned_ok (hH.ints (by exact Has.auto)) (by omega)) ?_; intro u)) | (show GO _ _ _ _ _ (⟨some _, none, _⟩ :: _) _; first | refine go_op (hk := ?_) | (refine go_nw (hk := ?_); intro u; try simp only [llc, lln, lna, lza]) | (refine go_np (hk := ?_); intro id)) | (show GO _ _ _ _ _ (⟨none, none, _⟩ :: _) _; refine go_st (hk := ?_)) | (show GO _ _ _ _ _ (⟨_, some _, _⟩ :: _) _; first | refine go_in (hk := ?_) | refine go_out (hk := ?_) | refine go_void (hk := ?_)) | (show GK _ _ _ _ (blockK _ _ _); refine gk_past rfl ?_) | (show GC _ _ _ _ _ (.cond _ _ _) _; first | refine gc_yes (h1 := ?_) | refine gc_no (h1 := ?_))))
  rw [if_pos hO', g2]
  refine go_split 37 rfl (fun _ => ?_) (fun hc => absurd rfl hc)
  (repeat (first | refine gst (hk := ?_) | (show GO _ _ _ _ _ (⟨some _, none, .call _ _⟩ :: _) _; first | (refine go_callg rfl code_spec_DrawRoomTried.callable (fun H hH => drawRoomTried_ok hH (by exact Has.auto) (by assumption) (by omega)) ?_; intro g hg) | (refine go_callp rfl code_impl_RoomTried.callable (fun H hH => implRoomTried_ok (hH.ints (by exact Has.auto)) (by omega)) ?_) | (refine go_callp rfl code_spec_RoomTried.callable (fun H hH => specRoomTried_ok (hH.ints (by exact Has.auto)) (by omega)) ?_) | (refine go_calln rfl code_laws_turned.callable (fun H hH => turned_ok (hH.ints (by exact Has.auto)) (by omega)) ?_; intro u)) | (show GO _ _ _ _ _ (⟨some _, none, _⟩ :: _) _; first | refine go_op (hk := ?_) | (refine go_nw (hk := ?_); intro u; try simp only [llc, lln, lna, lza]) | (refine go_np (hk := ?_); intro id)) | (show GO _ _ _ _ _ (⟨none, none, _⟩ :: _) _; refine go_st (hk := ?_)) | (show GO _ _ _ _ _ (⟨_, some _, _⟩ :: _) _; first | refine go_in (hk := ?_) | refine go_out (hk := ?_) | refine go_void (hk := ?_)) | (show GK _ _ _ _ (blockK _ _ _); refine gk_past rfl ?_) | (show GC _ _ _ _ _ (.cond _ _ _) _; first | refine gc_yes (h1 := ?_) | refine gc_no (h1 := ?_))))
  exact gk_ret rfl fun H' hH => by simp [tupleOf, g3]

def SmP (xs : List Int) (i d : Nat) : Prop := ∀ t, i ≤ t → t < i + d → nth xs t = nth xs i

noncomputable instance (xs : List Int) (i d : Nat) : Decidable (SmP xs i d) := Classical.propDecidable _

theorem SmP.succ {xs : List Int} {i d : Nat} : SmP xs i (d + 1) ↔ SmP xs i d ∧ nth xs (i + d) = nth xs i := by
  constructor
  · exact fun h => ⟨fun t h1 h2 => h t h1 (by omega), h (i + d) (by omega) (by omega)⟩
  · rintro ⟨h1, h2⟩ t h3 h4
    rcases Nat.lt_or_ge t (i + d) with h5 | h5
    · exact h1 t h3 h5
    · rw [show t = i + d by omega]; exact h2

end Go.Rx.Try
