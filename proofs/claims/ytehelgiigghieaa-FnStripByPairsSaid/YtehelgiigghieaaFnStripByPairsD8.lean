import Derived.Test.YtehelgiigghieaaFnStripByPairsD7
namespace Go.Rx.Try
open Go.Proofs
set_option maxRecDepth 100000
set_option maxHeartbeats 8000000
set_option linter.unusedSimpArgs false
set_option linter.unusedVariables false

theorem eqD_PtR (xs ys : List Int) (i j : Nat) : eqD xs ys i j = (PtR ys i - PtR ys j) * (1 / 2) ∨ eqD xs ys i j = (PtR ys j - PtR ys i) * (1 / 2) := by
  unfold eqD PtR
  rcases Int.le_total (nth ys i - nth ys j) (nth ys j - nth ys i) with h | h
  · right
    rw [Int.max_eq_right h, Rat.intCast_sub]
    have e : ((2 : Int) : Rat) = 2 := rfl
    rw [e]; grind
  · left
    rw [Int.max_eq_left h, Rat.intCast_sub]
    have e : ((2 : Int) : Rat) = 2 := rfl
    rw [e]; grind

theorem eqD_ge (xs ys : List Int) (i j : Nat) : (PtR ys i - PtR ys j) * (1 / 2) ≤ eqD xs ys i j := by
  unfold eqD PtR
  have h : nth ys i - nth ys j ≤ max (nth ys i - nth ys j) (nth ys j - nth ys i) := by omega
  generalize max (nth ys i - nth ys j) (nth ys j - nth ys i) = m at *
  have h2 : ((nth ys i - nth ys j : Int) : Rat) ≤ (m : Rat) := Rat.intCast_le_intCast.2 h
  rw [Rat.intCast_sub] at h2
  have e : ((2 : Int) : Rat) = 2 := rfl
  rw [e]; grind

theorem tb_wid {xs ys : List Int} (hn : 0 < xs.length) (s : Rat) : tbI xs ys xs.length ≤ bWid xs ys s := by
  have hw := (wid_le (X := PtR xs) (Y := PtR ys) (s := s) hn).1 Rat.le_refl
  rw [bWid_wid]
  obtain ⟨h1, h2⟩ := strip_low hw
  have h0 := hw 0 0 hn hn
  generalize widR (PtR xs) (PtR ys) xs.length s = W at *
  refine tbI_le.2 ⟨by grind, fun l hl j hj => ⟨fun e => ?_, fun k hk ht => ?_⟩⟩
  · have e1 : PtR xs l = PtR xs j := congrArg (fun z : Int => (z : Rat)) e
    have h3 := h1 l j hl hj e1
    have h4 := h1 j l hj hl e1.symm
    rcases eqD_PtR xs ys l j with h5 | h5 <;> rw [h5] <;> grind
  · have h3 := h2 l k j hl hk hj (Rat.intCast_lt_intCast.2 ht.1.1) (Rat.intCast_le_intCast.2 ht.1.2) (Rat.intCast_le_intCast.2 ht.2)
    rw [← thD_PtR] at h3
    unfold thR
    rw [half_is]; grind

theorem slS_PS {xs ys : List Int} (p : Rat) : p ∈ slS xs ys xs.length ↔ PS (PtR xs) (PtR ys) xs.length p := by
  rw [slS_mem]
  constructor
  · rintro ⟨i, j, h1, h2, h3, rfl⟩
    exact ⟨j, i, by omega, h1, fun e => h3 (rat_inj e).symm, slR_PtR xs ys j i⟩
  · rintro ⟨i, k, h1, h2, h3, rfl⟩
    have hne : nth xs i ≠ nth xs k := fun e => h3 (congrArg (fun z : Int => (z : Rat)) e)
    rcases Nat.lt_or_ge i k with h4 | h4
    · exact ⟨k, i, h2, h4, fun e => hne e.symm, (slR_PtR xs ys i k).symm⟩
    · have h5 : k < i := by
        rcases Nat.lt_or_ge k i with h6 | h6
        · exact h6
        · exact absurd (show nth xs i = nth xs k by rw [show i = k by omega]) hne
      exact ⟨i, k, h1, h5, hne, by rw [slR_swap, slR_PtR]⟩

theorem sb_tb {xs ys : List Int} (hc : Cloud xs ys) : sbR xs ys = tbI xs ys xs.length := by
  have hpos := hc.slopes
  obtain ⟨w, w1, w2, w3⟩ := hc.2
  have hn : 0 < xs.length := by omega
  obtain ⟨l1, j, hj, l2⟩ := loR_is (sbT xs ys) ((slS xs ys xs.length).length - 1)
  refine Rat.le_antisymm ?_ ?_
  · obtain ⟨hT0, hT1⟩ := tbI_le.1 (Rat.le_refl (a := tbI xs ys xs.length))
    obtain ⟨s, hs, hle⟩ := strip_best (X := PtR xs) (Y := PtR ys) (n := xs.length) (T := tbI xs ys xs.length * 2) (l := slS xs ys xs.length) hn (fun p => slS_PS p) (fun e => by rw [e] at hpos; simp at hpos) (fun i j hi hj e => by
      have h1 := (hT1 i hi j hj).1 (rat_inj e)
      have h2 := eqD_ge xs ys i j
      grind) (fun i k j hi hk hj h1 h2 h3 => by
      have h4 := (hT1 i hi j hj).2 k hk ⟨⟨Rat.intCast_lt_intCast.1 h1, Rat.intCast_le_intCast.1 h2⟩, Rat.intCast_le_intCast.1 h3⟩
      rw [← thD_PtR]
      unfold thR at h4
      rw [half_is] at h4
      grind)
    obtain ⟨m, hm, e⟩ := List.getElem_of_mem hs
    have h1 := l1 m (by omega)
    have h2 : sbT xs ys m = widR (PtR xs) (PtR ys) xs.length s * (1 / 2) := by
      unfold sbT; rw [nthR_of hm, e, bWid_wid]
    rw [h2] at h1
    show loR (sbT xs ys) _ ≤ _
    grind
  · show _ ≤ loR (sbT xs ys) _
    rw [l2]
    exact tb_wid hn _

theorem tb_range {xs ys : List Int} (hn : 0 < xs.length) (hl : xs.length = ys.length) : ¬ ((gmL ys + gmL (ys.map (- ·)) : Int) : Rat) / ((2 : Int) : Rat) < tbI xs ys xs.length := by
  have h := tb_wid (xs := xs) (ys := ys) hn 0
  have hg := gmT_is ys (ys.length - 1)
  have hg2 := gmT_is (ys.map (- ·)) ((ys.map (- ·)).length - 1)
  rw [bWid_wid] at h
  have hw : widR (PtR xs) (PtR ys) xs.length 0 ≤ ((gmL ys + gmL (ys.map (- ·)) : Int) : Rat) := by
    refine (wid_le hn).2 fun u d hu hd => ?_
    have h1 := hg.2 u (by omega)
    have h2 := hg2.2 d (by simp; omega)
    rw [getD_map _ (by omega)] at h2
    have e : resd (PtR xs) (PtR ys) 0 u - resd (PtR xs) (PtR ys) 0 d = ((nth ys u - nth ys d : Int) : Rat) := by
      unfold resd PtR
      rw [Rat.intCast_sub]; grind
    rw [e]
    refine Rat.intCast_le_intCast.2 ?_
    unfold gmL; omega
  have e : ((2 : Int) : Rat) = 2 := rfl
  rw [e]
  generalize ((gmL ys + gmL (ys.map (- ·)) : Int) : Rat) = g at *
  grind
/- turned, negated, the first ones -/

theorem lawFnStripByPairs_ok {H : Heap} {a : AV} {bs : List Int} (ha : Vals H a 1 bs.length (bs.map (.int .u8))) (hw : ∀ x ∈ bs, (Lit.int .u8 x).wf = true) : ACalls Try.prog fn_laws_FnStripByPairs [a] H fun r _ => r = .bool true := by
  have hb := bytes_of hw
  refine code_laws_FnStripByPairs.go [byt a bs] ⟨⟨rfl, ha⟩, trivial⟩ (by simp) ?_
  unfold mc_laws_FnStripByPairs
  (repeat (first | refine gst (hk := ?_) | (show GO _ _ _ _ _ (⟨some _, none, .call _ _⟩ :: _) _; first | (refine go_callg rfl code_spec_DrawStripByPairs.callable (fun H hH => drawStripByPairs_ok hH (by exact Has.auto) (by assumption) (by omega)) ?_; intro g hg) | (refine go_callp rfl code_impl_StripByPairs.callable (fun H hH => implStripByPairs_t (hH.ints (by exact Has.auto)) (hH.ints (by exact Has.auto)) (by omega) (by omega)) ?_) | (refine go_callp rfl code_spec_StripByPairs.callable (fun H hH => specStripByPairs_t (hH.ints (by exact Has.auto)) (hH.ints (by exact Has.auto)) (by omega) (by omega)) ?_) | (refine go_callp rfl code_impl_StripByThrees.callable (fun H hH => implStripByThrees_t (hH.ints (by exact Has.auto)) (hH.ints (by exact Has.auto)) (by omega) (by omega)) ?_) | (refine go_callp rfl code_laws_greatest.callable (fun H hH => greatest_ok (hH.ints (by exact Has.auto)) (by omega) (by omega)) ?_) | (refine go_calln rfl code_laws_negated.callable (fun H hH => negated_ok (hH.ints (by exact Has.auto)) (by omega) (by assumption)) ?_; intro u)) | (show GO _ _ _ _ _ (⟨some _, none, _⟩ :: _) _; first | refine go_op (hk := ?_) | (refine go_nw (hk := ?_); intro u; try simp only [llc, lln, lna, lza]) | (refine go_np (hk := ?_); intro id)) | (show GO _ _ _ _ _ (⟨none, none, _⟩ :: _) _; refine go_st (hk := ?_)) | (show GO _ _ _ _ _ (⟨_, some _, _⟩ :: _) _; first | refine go_in (hk := ?_) | refine go_out (hk := ?_) | refine go_void (hk := ?_)) | (show GK _ _ _ _ (blockK _ _ _); refine gk_past rfl ?_) | (show GC _ _ _ _ _ (.cond _ _ _) _; first | refine gc_yes (h1 := ?_) | refine gc_no (h1 := ?_))))
  refine gc_cond rfl (fun h => ?_) (fun h => ?_)
  · (repeat (first | refine gst (hk := ?_) | (show GO _ _ _ _ _ (⟨some _, none, .call _ _⟩ :: _) _; first | (refine go_callg rfl code_spec_DrawStripByPairs.callable (fun H hH => drawStripByPairs_ok hH (by exact Has.auto) (by assumption) (by omega)) ?_; intro g hg) | (refine go_callp rfl code_impl_StripByPairs.callable (fun H hH => implStripByPairs_t (hH.ints (by exact Has.auto)) (hH.ints (by exact Has.auto)) (by omega) (by omega)) ?_) | (refine go_callp rfl code_spec_StripByPairs.callable (fun H hH => specStripByPairs_t (hH.ints (by exact Has.auto)) (hH.ints (by exact Has.auto)) (by omega) (by omega)) ?_) | (refine go_callp rfl code_impl_StripByThrees.callable (fun H hH => implStripByThrees_t (hH.ints (by exact Has.auto)) (hH.ints (by exact Has.auto)) (by omega) (by omega)) ?_) | (refine go_callp rfl code_laws_greatest.callable (fun H hH => greatest_ok (hH.ints (by exact Has.auto)) (by omega) (by omega)) ?_) | (refine go_calln rfl code_laws_negated.callable (fun H hH => negated_ok (hH.ints (by exact Has.auto)) (by omega) (by assumption)) ?_; intro u)) | (show GO _ _ _ _ _ (⟨some _, none, _⟩ :: _) _; first | refine go_op (hk := ?_) | (refine go_nw (hk := ?_); intro u; try simp only [llc, lln, lna, lza]) | (refine go_np (hk := ?_); intro id)) | (show GO _ _ _ _ _ (⟨none, none, _⟩ :: _) _; refine go_st (hk := ?_)) | (show GO _ _ _ _ _ (⟨_, some _, _⟩ :: _) _; first | refine go_in (hk := ?_) | refine go_out (hk := ?_) | refine go_void (hk := ?_)) | (show GK _ _ _ _ (blockK _ _ _); refine gk_past rfl ?_) | (show GC _ _ _ _ _ (.cond _ _ _) _; first | refine gc_yes (h1 := ?_) | refine gc_no (h1 := ?_))))
    exact gk_ret rfl fun H' hH => rfl
  (repeat (first | refine gst (hk := ?_) | (show GO _ _ _ _ _ (⟨some _, none, .call _ _⟩ :: _) _; first | (refine go_callg rfl code_spec_DrawStripByPairs.callable (fun H hH => drawStripByPairs_ok hH (by exact Has.auto) (by assumption) (by omega)) ?_; intro g hg) | (refine go_callp rfl code_impl_StripByPairs.callable (fun H hH => implStripByPairs_t (hH.ints (by exact Has.auto)) (hH.ints (by exact Has.auto)) (by omega) (by omega)) ?_) | (refine go_callp rfl code_spec_StripByPairs.callable (fun H hH => specStripByPairs_t (hH.ints (by exact Has.auto)) (hH.ints (by exact Has.auto)) (by omega) (by omega)) ?_) | (refine go_callp rfl code_impl_StripByThrees.callable (fun H hH => implStripByThrees_t (hH.ints (by exact Has.auto)) (hH.ints (by exact Has.auto)) (by omega) (by omega)) ?_) | (refine go_callp rfl code_laws_greatest.callable (fun H hH => greatest_ok (hH.ints (by exact Has.auto)) (by omega) (by omega)) ?_) | (refine go_calln rfl code_laws_negated.callable (fun H hH => negated_ok (hH.ints (by exact Has.auto)) (by omega) (by assumption)) ?_; intro u)) | (show GO _ _ _ _ _ (⟨some _, none, _⟩ :: _) _; first | refine go_op (hk := ?_) | (refine go_nw (hk := ?_); intro u; try simp only [llc, lln, lna, lza]) | (refine go_np (hk := ?_); intro id)) | (show GO _ _ _ _ _ (⟨none, none, _⟩ :: _) _; refine go_st (hk := ?_)) | (show GO _ _ _ _ _ (⟨_, some _, _⟩ :: _) _; first | refine go_in (hk := ?_) | refine go_out (hk := ?_) | refine go_void (hk := ?_)) | (show GK _ _ _ _ (blockK _ _ _); refine gk_past rfl ?_) | (show GC _ _ _ _ _ (.cond _ _ _) _; first | refine gc_yes (h1 := ?_) | refine gc_no (h1 := ?_))))
  obtain ⟨gu, gv, xs, ys, gq⟩ := g
  simp only at hg ⊢
  (repeat (first | refine gst (hk := ?_) | (show GO _ _ _ _ _ (⟨some _, none, .call _ _⟩ :: _) _; first | (refine go_callg rfl code_spec_DrawStripByPairs.callable (fun H hH => drawStripByPairs_ok hH (by exact Has.auto) (by assumption) (by omega)) ?_; intro g hg) | (refine go_callp rfl code_impl_StripByPairs.callable (fun H hH => implStripByPairs_t (hH.ints (by exact Has.auto)) (hH.ints (by exact Has.auto)) (by omega) (by omega)) ?_) | (refine go_callp rfl code_spec_StripByPairs.callable (fun H hH => specStripByPairs_t (hH.ints (by exact Has.auto)) (hH.ints (by exact Has.auto)) (by omega) (by omega)) ?_) | (refine go_callp rfl code_impl_StripByThrees.callable (fun H hH => implStripByThrees_t (hH.ints (by exact Has.auto)) (hH.ints (by exact Has.auto)) (by omega) (by omega)) ?_) | (refine go_callp rfl code_laws_greatest.callable (fun H hH => greatest_ok (hH.ints (by exact Has.auto)) (by omega) (by omega)) ?_) | (refine go_calln rfl code_laws_negated.callable (fun H hH => negated_ok (hH.ints (by exact Has.auto)) (by omega) (by assumption)) ?_; intro u)) | (show GO _ _ _ _ _ (⟨some _, none, _⟩ :: _) _; first | refine go_op (hk := ?_) | (refine go_nw (hk := ?_); intro u; try simp only [llc, lln, lna, lza]) | (refine go_np (hk := ?_); intro id)) | (show GO _ _ _ _ _ (⟨none, none, _⟩ :: _) _; refine go_st (hk := ?_)) | (show GO _ _ _ _ _ (⟨_, some _, _⟩ :: _) _; first | refine go_in (hk := ?_) | refine go_out (hk := ?_) | refine go_void (hk := ?_)) | (show GK _ _ _ _ (blockK _ _ _); refine gk_past rfl ?_) | (show GC _ _ _ _ _ (.cond _ _ _) _; first | refine gc_yes (h1 := ?_) | refine gc_no (h1 := ?_))))
  refine go_recall 34 (.bool false) rfl (by simp) ?_
  (repeat (first | refine gst (hk := ?_) | (show GO _ _ _ _ _ (⟨some _, none, .call _ _⟩ :: _) _; first | (refine go_callg rfl code_spec_DrawStripByPairs.callable (fun H hH => drawStripByPairs_ok hH (by exact Has.auto) (by assumption) (by omega)) ?_; intro g hg) | (refine go_callp rfl code_impl_StripByPairs.callable (fun H hH => implStripByPairs_t (hH.ints (by exact Has.auto)) (hH.ints (by exact Has.auto)) (by omega) (by omega)) ?_) | (refine go_callp rfl code_spec_StripByPairs.callable (fun H hH => specStripByPairs_t (hH.ints (by exact Has.auto)) (hH.ints (by exact Has.auto)) (by omega) (by omega)) ?_) | (refine go_callp rfl code_impl_StripByThrees.callable (fun H hH => implStripByThrees_t (hH.ints (by exact Has.auto)) (hH.ints (by exact Has.auto)) (by omega) (by omega)) ?_) | (refine go_callp rfl code_laws_greatest.callable (fun H hH => greatest_ok (hH.ints (by exact Has.auto)) (by omega) (by omega)) ?_) | (refine go_calln rfl code_laws_negated.callable (fun H hH => negated_ok (hH.ints (by exact Has.auto)) (by omega) (by assumption)) ?_; intro u)) | (show GO _ _ _ _ _ (⟨some _, none, _⟩ :: _) _; first | refine go_op (hk := ?_) | (refine go_nw (hk := ?_); intro u; try simp only [llc, lln, lna, lza]) | (refine go_np (hk := ?_); intro id)) | (show GO _ _ _ _ _ (⟨none, none, _⟩ :: _) _; refine go_st (hk := ?_)) | (show GO _ _ _ _ _ (⟨_, some _, _⟩ :: _) _; first | refine go_in (hk := ?_) | refine go_out (hk := ?_) | refine go_void (hk := ?_)) | (show GK _ _ _ _ (blockK _ _ _); refine gk_past rfl ?_) | (show GC _ _ _ _ _ (.cond _ _ _) _; first | refine gc_yes (h1 := ?_) | refine gc_no (h1 := ?_))))
  refine go_split 39 rfl (fun hc => absurd Iff.rfl hc) (fun _ => ?_)
  (repeat (first | refine gst (hk := ?_) | (show GO _ _ _ _ _ (⟨some _, none, .call _ _⟩ :: _) _; first | (refine go_callg rfl code_spec_DrawStripByPairs.callable (fun H hH => drawStripByPairs_ok hH (by exact Has.auto) (by assumption) (by omega)) ?_; intro g hg) | (refine go_callp rfl code_impl_StripByPairs.callable (fun H hH => implStripByPairs_t (hH.ints (by exact Has.auto)) (hH.ints (by exact Has.auto)) (by omega) (by omega)) ?_) | (refine go_callp rfl code_spec_StripByPairs.callable (fun H hH => specStripByPairs_t (hH.ints (by exact Has.auto)) (hH.ints (by exact Has.auto)) (by omega) (by omega)) ?_) | (refine go_callp rfl code_impl_StripByThrees.callable (fun H hH => implStripByThrees_t (hH.ints (by exact Has.auto)) (hH.ints (by exact Has.auto)) (by omega) (by omega)) ?_) | (refine go_callp rfl code_laws_greatest.callable (fun H hH => greatest_ok (hH.ints (by exact Has.auto)) (by omega) (by omega)) ?_) | (refine go_calln rfl code_laws_negated.callable (fun H hH => negated_ok (hH.ints (by exact Has.auto)) (by omega) (by assumption)) ?_; intro u)) | (show GO _ _ _ _ _ (⟨some _, none, _⟩ :: _) _; first | refine go_op (hk := ?_) | (refine go_nw (hk := ?_); intro u; try simp only [llc, lln, lna, lza]) | (refine go_np (hk := ?_); intro id)) | (show GO _ _ _ _ _ (⟨none, none, _⟩ :: _) _; refine go_st (hk := ?_)) | (show GO _ _ _ _ _ (⟨_, some _, _⟩ :: _) _; first | refine go_in (hk := ?_) | refine go_out (hk := ?_) | refine go_void (hk := ?_)) | (show GK _ _ _ _ (blockK _ _ _); refine gk_past rfl ?_) | (show GC _ _ _ _ _ (.cond _ _ _) _; first | refine gc_yes (h1 := ?_) | refine gc_no (h1 := ?_))))
  refine gc_cond rfl (fun h2 => ?_) (fun h2 => ?_)
  · (repeat (first | refine gst (hk := ?_) | (show GO _ _ _ _ _ (⟨some _, none, .call _ _⟩ :: _) _; first | (refine go_callg rfl code_spec_DrawStripByPairs.callable (fun H hH => drawStripByPairs_ok hH (by exact Has.auto) (by assumption) (by omega)) ?_; intro g hg) | (refine go_callp rfl code_impl_StripByPairs.callable (fun H hH => implStripByPairs_t (hH.ints (by exact Has.auto)) (hH.ints (by exact Has.auto)) (by omega) (by omega)) ?_) | (refine go_callp rfl code_spec_StripByPairs.callable (fun H hH => specStripByPairs_t (hH.ints (by exact Has.auto)) (hH.ints (by exact Has.auto)) (by omega) (by omega)) ?_) | (refine go_callp rfl code_impl_StripByThrees.callable (fun H hH => implStripByThrees_t (hH.ints (by exact Has.auto)) (hH.ints (by exact Has.auto)) (by omega) (by omega)) ?_) | (refine go_callp rfl code_laws_greatest.callable (fun H hH => greatest_ok (hH.ints (by exact Has.auto)) (by omega) (by omega)) ?_) | (refine go_calln rfl code_laws_negated.callable (fun H hH => negated_ok (hH.ints (by exact Has.auto)) (by omega) (by assumption)) ?_; intro u)) | (show GO _ _ _ _ _ (⟨some _, none, _⟩ :: _) _; first | refine go_op (hk := ?_) | (refine go_nw (hk := ?_); intro u; try simp only [llc, lln, lna, lza]) | (refine go_np (hk := ?_); intro id)) | (show GO _ _ _ _ _ (⟨none, none, _⟩ :: _) _; refine go_st (hk := ?_)) | (show GO _ _ _ _ _ (⟨_, some _, _⟩ :: _) _; first | refine go_in (hk := ?_) | refine go_out (hk := ?_) | refine go_void (hk := ?_)) | (show GK _ _ _ _ (blockK _ _ _); refine gk_past rfl ?_) | (show GC _ _ _ _ _ (.cond _ _ _) _; first | refine gc_yes (h1 := ?_) | refine gc_no (h1 := ?_))))
    refine go_split 46 rfl (fun _ => ?_) (fun hc => absurd ⟨rfl, rfl⟩ hc)
    (repeat (first | refine gst (hk := ?_) | (show GO _ _ _ _ _ (⟨some _, none, .call _ _⟩ :: _) _; first | (refine go_callg rfl code_spec_DrawStripByPairs.callable (fun H hH => drawStripByPairs_ok hH (by exact Has.auto) (by assumption) (by omega)) ?_; intro g hg) | (refine go_callp rfl code_impl_StripByPairs.callable (fun H hH => implStripByPairs_t (hH.ints (by exact Has.auto)) (hH.ints (by exact Has.auto)) (by omega) (by omega)) ?_) | (refine go_callp rfl code_spec_StripByPairs.callable (fun H hH => specStripByPairs_t (hH.ints (by exact Has.auto)) (hH.ints (by exact Has.auto)) (by omega) (by omega)) ?_) | (refine go_callp rfl code_impl_StripByThrees.callable (fun H hH => implStripByThrees_t (hH.ints (by exact Has.auto)) (hH.ints (by exact Has.auto)) (by omega) (by omega)) ?_) | (refine go_callp rfl code_laws_greatest.callable (fun H hH => greatest_ok (hH.ints (by exact Has.auto)) (by omega) (by omega)) ?_) | (refine go_calln rfl code_laws_negated.callable (fun H hH => negated_ok (hH.ints (by exact Has.auto)) (by omega) (by assumption)) ?_; intro u)) | (show GO _ _ _ _ _ (⟨some _, none, _⟩ :: _) _; first | refine go_op (hk := ?_) | (refine go_nw (hk := ?_); intro u; try simp only [llc, lln, lna, lza]) | (refine go_np (hk := ?_); intro id)) | (show GO _ _ _ _ _ (⟨none, none, _⟩ :: _) _; refine go_st (hk := ?_)) | (show GO _ _ _ _ _ (⟨_, some _, _⟩ :: _) _; first | refine go_in (hk := ?_) | refine go_out (hk := ?_) | refine go_void (hk := ?_)) | (show GK _ _ _ _ (blockK _ _ _); refine gk_past rfl ?_) | (show GC _ _ _ _ _ (.cond _ _ _) _; first | refine gc_yes (h1 := ?_) | refine gc_no (h1 := ?_))))
    exact gk_ret rfl fun H' hH => by simp [tupleOf]
  have hc : Cloud xs ys := Decidable.not_not.1 h2
  have hp := hc.1
  have h7 := hp.2.2
  have hlen := hp.2.1
  have hbd : Bd 1000000000 ys := fun x hx => by have := hg.2.2.2 x hx; omega
  have hm1 : (ys.map (- ·)).length = ys.length := List.length_map _
  obtain ⟨w, w1, w2, w3⟩ := hc.2
  have e0 : sbR xs ys = tbI xs ys xs.length := sb_tb hc
  have hrng := tb_range (xs := xs) (ys := ys) (by omega) hlen
  have bY := hp.bd.2
  obtain ⟨⟨j1, j0, q1⟩, r1⟩ := gmT_is ys (ys.length - 1)
  obtain ⟨⟨j2, j3, q2⟩, r2⟩ := gmT_is (ys.map (- ·)) ((ys.map (- ·)).length - 1)
  have b1 : -12 ≤ gmL ys ∧ gmL ys ≤ 12 := by
    have := bY.nth (by omega) j1
    unfold gmL; omega
  have b2 : -12 ≤ gmL (ys.map (- ·)) ∧ gmL (ys.map (- ·)) ≤ 12 := by
    have := bY.nth (by omega) j2
    rw [getD_map _ (by omega)] at q2
    unfold gmL; omega
  have g1 : opN (Cloud xs ys) (tbI xs ys xs.length) = (tbI xs ys xs.length).num := by unfold opN; rw [if_pos hc]
  have g2 : opD (Cloud xs ys) (tbI xs ys xs.length) = ((tbI xs ys xs.length).den : Int) := by unfold opD; rw [if_pos hc]
  have hW : FD (((gmL ys + gmL (ys.map (- ·)) : Int) : Rat) / ((2 : Int) : Rat)) 2 24 := FD.div (by omega) (by omega)
  obtain ⟨E, d1, f1⟩ := tbI_fd hp xs.length
  have hfit := fitA_of hW f1 (by omega) (by omega) (by omega)
  (repeat (first | refine gst (hk := ?_) | (show GO _ _ _ _ _ (⟨some _, none, .call _ _⟩ :: _) _; first | (refine go_callg rfl code_spec_DrawStripByPairs.callable (fun H hH => drawStripByPairs_ok hH (by exact Has.auto) (by assumption) (by omega)) ?_; intro g hg) | (refine go_callp rfl code_impl_StripByPairs.callable (fun H hH => implStripByPairs_t (hH.ints (by exact Has.auto)) (hH.ints (by exact Has.auto)) (by omega) (by omega)) ?_) | (refine go_callp rfl code_spec_StripByPairs.callable (fun H hH => specStripByPairs_t (hH.ints (by exact Has.auto)) (hH.ints (by exact Has.auto)) (by omega) (by omega)) ?_) | (refine go_callp rfl code_impl_StripByThrees.callable (fun H hH => implStripByThrees_t (hH.ints (by exact Has.auto)) (hH.ints (by exact Has.auto)) (by omega) (by omega)) ?_) | (refine go_callp rfl code_laws_greatest.callable (fun H hH => greatest_ok (hH.ints (by exact Has.auto)) (by omega) (by omega)) ?_) | (refine go_calln rfl code_laws_negated.callable (fun H hH => negated_ok (hH.ints (by exact Has.auto)) (by omega) (by assumption)) ?_; intro u)) | (show GO _ _ _ _ _ (⟨some _, none, _⟩ :: _) _; first | refine go_op (hk := ?_) | (refine go_nw (hk := ?_); intro u; try simp only [llc, lln, lna, lza]) | (refine go_np (hk := ?_); intro id)) | (show GO _ _ _ _ _ (⟨none, none, _⟩ :: _) _; refine go_st (hk := ?_)) | (show GO _ _ _ _ _ (⟨_, some _, _⟩ :: _) _; first | refine go_in (hk := ?_) | refine go_out (hk := ?_) | refine go_void (hk := ?_)) | (show GK _ _ _ _ (blockK _ _ _); refine gk_past rfl ?_) | (show GC _ _ _ _ _ (.cond _ _ _) _; first | refine gc_yes (h1 := ?_) | refine gc_no (h1 := ?_))))
  rw [e0, g1, g2]
  rename_i i5 i7 _
  revert id; intro i9
  refine gc_keep [(4, gv), (5, .ptr i5 0), (9, .ptr i9 0), (10, .bool (decide (Cloud xs ys)))] [celF i9 (tbI xs ys xs.length), celF i5 (tbI xs ys xs.length), .rwI gv ys.length ys] (by (repeat (refine Cov.cons (by exact rfl) ?_)); exact Cov.nil) (by exact Sub.auto) ?_
  refine gc_dra_cut (γ := Unit) (fun _ => [(2, .bool (decide (¬ ((gmL ys + gmL (ys.map (- ·)) : Int) : Rat) / ((2 : Int) : Rat) < tbI xs ys xs.length)))]) (fun _ => []) ?_ (fun _ => ?_)
  · refine gc_dra ?_ (gc_dra ?_ (gc_dra ?_ (gc_dra ?_ (gc_dra ?_ (gc_dra ?_ (gc_dra ?_ (gc_dra ?_ (gc_dra ?_ (gc_dra1 ?_)))))))))
    all_goals
      (repeat (first | refine gst (hk := ?_) | (show GO _ _ _ _ _ (⟨some _, none, .call _ _⟩ :: _) _; first | (refine go_callg rfl code_spec_DrawStripByPairs.callable (fun H hH => drawStripByPairs_ok hH (by exact Has.auto) (by assumption) (by omega)) ?_; intro g hg) | (refine go_callp rfl code_impl_StripByPairs.callable (fun H hH => implStripByPairs_t (hH.ints (by exact Has.auto)) (hH.ints (by exact Has.auto)) (by omega) (by omega)) ?_) | (refine go_callp rfl code_spec_StripByPairs.callable (fun H hH => specStripByPairs_t (hH.ints (by exact Has.auto)) (hH.ints (by exact Has.auto)) (by omega) (by omega)) ?_) | (refine go_callp rfl code_impl_StripByThrees.callable (fun H hH => implStripByThrees_t (hH.ints (by exact Has.auto)) (hH.ints (by exact Has.auto)) (by omega) (by omega)) ?_) | (refine go_callp rfl code_laws_greatest.callable (fun H hH => greatest_ok (hH.ints (by exact Has.auto)) (by omega) (by omega)) ?_) | (refine go_calln rfl code_laws_negated.callable (fun H hH => negated_ok (hH.ints (by exact Has.auto)) (by omega) (by assumption)) ?_; intro u)) | (show GO _ _ _ _ _ (⟨some _, none, _⟩ :: _) _; first | refine go_op (hk := ?_) | (refine go_nw (hk := ?_); intro u; try simp only [llc, lln, lna, lza]) | (refine go_np (hk := ?_); intro id)) | (show GO _ _ _ _ _ (⟨none, none, _⟩ :: _) _; refine go_st (hk := ?_)) | (show GO _ _ _ _ _ (⟨_, some _, _⟩ :: _) _; first | refine go_in (hk := ?_) | refine go_out (hk := ?_) | refine go_void (hk := ?_)) | (show GK _ _ _ _ (blockK _ _ _); refine gk_past rfl ?_) | (show GC _ _ _ _ _ (.cond _ _ _) _; first | refine gc_yes (h1 := ?_) | refine gc_no (h1 := ?_))))
      refine go_split 58 rfl (fun _ => ?_) (fun hn => absurd hc hn)
      (repeat (first | refine gst (hk := ?_) | (show GO _ _ _ _ _ (⟨some _, none, .call _ _⟩ :: _) _; first | (refine go_callg rfl code_spec_DrawStripByPairs.callable (fun H hH => drawStripByPairs_ok hH (by exact Has.auto) (by assumption) (by omega)) ?_; intro g hg) | (refine go_callp rfl code_impl_StripByPairs.callable (fun H hH => implStripByPairs_t (hH.ints (by exact Has.auto)) (hH.ints (by exact Has.auto)) (by omega) (by omega)) ?_) | (refine go_callp rfl code_spec_StripByPairs.callable (fun H hH => specStripByPairs_t (hH.ints (by exact Has.auto)) (hH.ints (by exact Has.auto)) (by omega) (by omega)) ?_) | (refine go_callp rfl code_impl_StripByThrees.callable (fun H hH => implStripByThrees_t (hH.ints (by exact Has.auto)) (hH.ints (by exact Has.auto)) (by omega) (by omega)) ?_) | (refine go_callp rfl code_laws_greatest.callable (fun H hH => greatest_ok (hH.ints (by exact Has.auto)) (by omega) (by omega)) ?_) | (refine go_calln rfl code_laws_negated.callable (fun H hH => negated_ok (hH.ints (by exact Has.auto)) (by omega) (by assumption)) ?_; intro u)) | (show GO _ _ _ _ _ (⟨some _, none, _⟩ :: _) _; first | refine go_op (hk := ?_) | (refine go_nw (hk := ?_); intro u; try simp only [llc, lln, lna, lza]) | (refine go_np (hk := ?_); intro id)) | (show GO _ _ _ _ _ (⟨none, none, _⟩ :: _) _; refine go_st (hk := ?_)) | (show GO _ _ _ _ _ (⟨_, some _, _⟩ :: _) _; first | refine go_in (hk := ?_) | refine go_out (hk := ?_) | refine go_void (hk := ?_)) | (show GK _ _ _ _ (blockK _ _ _); refine gk_past rfl ?_) | (show GC _ _ _ _ _ (.cond _ _ _) _; first | refine gc_yes (h1 := ?_) | refine gc_no (h1 := ?_))))
      refine go_split 63 rfl (fun _ => ?_) (fun hn => absurd ⟨rfl, rfl⟩ hn)
      (repeat (first | refine gst (hk := ?_) | (show GO _ _ _ _ _ (⟨some _, none, .call _ _⟩ :: _) _; first | (refine go_callg rfl code_spec_DrawStripByPairs.callable (fun H hH => drawStripByPairs_ok hH (by exact Has.auto) (by assumption) (by omega)) ?_; intro g hg) | (refine go_callp rfl code_impl_StripByPairs.callable (fun H hH => implStripByPairs_t (hH.ints (by exact Has.auto)) (hH.ints (by exact Has.auto)) (by omega) (by omega)) ?_) | (refine go_callp rfl code_spec_StripByPairs.callable (fun H hH => specStripByPairs_t (hH.ints (by exact Has.auto)) (hH.ints (by exact Has.auto)) (by omega) (by omega)) ?_) | (refine go_callp rfl code_impl_StripByThrees.callable (fun H hH => implStripByThrees_t (hH.ints (by exact Has.auto)) (hH.ints (by exact Has.auto)) (by omega) (by omega)) ?_) | (refine go_callp rfl code_laws_greatest.callable (fun H hH => greatest_ok (hH.ints (by exact Has.auto)) (by omega) (by omega)) ?_) | (refine go_calln rfl code_laws_negated.callable (fun H hH => negated_ok (hH.ints (by exact Has.auto)) (by omega) (by assumption)) ?_; intro u)) | (show GO _ _ _ _ _ (⟨some _, none, _⟩ :: _) _; first | refine go_op (hk := ?_) | (refine go_nw (hk := ?_); intro u; try simp only [llc, lln, lna, lza]) | (refine go_np (hk := ?_); intro id)) | (show GO _ _ _ _ _ (⟨none, none, _⟩ :: _) _; refine go_st (hk := ?_)) | (show GO _ _ _ _ _ (⟨_, some _, _⟩ :: _) _; first | refine go_in (hk := ?_) | refine go_out (hk := ?_) | refine go_void (hk := ?_)) | (show GK _ _ _ _ (blockK _ _ _); refine gk_past rfl ?_) | (show GC _ _ _ _ _ (.cond _ _ _) _; first | refine gc_yes (h1 := ?_) | refine gc_no (h1 := ?_))))
      refine go_callp rfl code_laws_fracOf.callable (fun H hH => lawFrac_ok (by omega) (by omega) (by omega)) ?_
      (repeat (first | refine gst (hk := ?_) | (show GO _ _ _ _ _ (⟨some _, none, .call _ _⟩ :: _) _; first | (refine go_callg rfl code_spec_DrawStripByPairs.callable (fun H hH => drawStripByPairs_ok hH (by exact Has.auto) (by assumption) (by omega)) ?_; intro g hg) | (refine go_callp rfl code_impl_StripByPairs.callable (fun H hH => implStripByPairs_t (hH.ints (by exact Has.auto)) (hH.ints (by exact Has.auto)) (by omega) (by omega)) ?_) | (refine go_callp rfl code_spec_StripByPairs.callable (fun H hH => specStripByPairs_t (hH.ints (by exact Has.auto)) (hH.ints (by exact Has.auto)) (by omega) (by omega)) ?_) | (refine go_callp rfl code_impl_StripByThrees.callable (fun H hH => implStripByThrees_t (hH.ints (by exact Has.auto)) (hH.ints (by exact Has.auto)) (by omega) (by omega)) ?_) | (refine go_callp rfl code_laws_greatest.callable (fun H hH => greatest_ok (hH.ints (by exact Has.auto)) (by omega) (by omega)) ?_) | (refine go_calln rfl code_laws_negated.callable (fun H hH => negated_ok (hH.ints (by exact Has.auto)) (by omega) (by assumption)) ?_; intro u)) | (show GO _ _ _ _ _ (⟨some _, none, _⟩ :: _) _; first | refine go_op (hk := ?_) | (refine go_nw (hk := ?_); intro u; try simp only [llc, lln, lna, lza]) | (refine go_np (hk := ?_); intro id)) | (show GO _ _ _ _ _ (⟨none, none, _⟩ :: _) _; refine go_st (hk := ?_)) | (show GO _ _ _ _ _ (⟨_, some _, _⟩ :: _) _; first | refine go_in (hk := ?_) | refine go_out (hk := ?_) | refine go_void (hk := ?_)) | (show GK _ _ _ _ (blockK _ _ _); refine gk_past rfl ?_) | (show GC _ _ _ _ _ (.cond _ _ _) _; first | refine gc_yes (h1 := ?_) | refine gc_no (h1 := ?_))))
      refine go_callp rfl code_laws_lessOf.callable (fun H hH => lawLess_ok (p := ((gmL ys + gmL (ys.map (- ·)) : Int) : Rat) / ((2 : Int) : Rat)) (q := tbI xs ys xs.length) hfit) ?_
      (repeat (first | refine gst (hk := ?_) | (show GO _ _ _ _ _ (⟨some _, none, .call _ _⟩ :: _) _; first | (refine go_callg rfl code_spec_DrawStripByPairs.callable (fun H hH => drawStripByPairs_ok hH (by exact Has.auto) (by assumption) (by omega)) ?_; intro g hg) | (refine go_callp rfl code_impl_StripByPairs.callable (fun H hH => implStripByPairs_t (hH.ints (by exact Has.auto)) (hH.ints (by exact Has.auto)) (by omega) (by omega)) ?_) | (refine go_callp rfl code_spec_StripByPairs.callable (fun H hH => specStripByPairs_t (hH.ints (by exact Has.auto)) (hH.ints (by exact Has.auto)) (by omega) (by omega)) ?_) | (refine go_callp rfl code_impl_StripByThrees.callable (fun H hH => implStripByThrees_t (hH.ints (by exact Has.auto)) (hH.ints (by exact Has.auto)) (by omega) (by omega)) ?_) | (refine go_callp rfl code_laws_greatest.callable (fun H hH => greatest_ok (hH.ints (by exact Has.auto)) (by omega) (by omega)) ?_) | (refine go_calln rfl code_laws_negated.callable (fun H hH => negated_ok (hH.ints (by exact Has.auto)) (by omega) (by assumption)) ?_; intro u)) | (show GO _ _ _ _ _ (⟨some _, none, _⟩ :: _) _; first | refine go_op (hk := ?_) | (refine go_nw (hk := ?_); intro u; try simp only [llc, lln, lna, lza]) | (refine go_np (hk := ?_); intro id)) | (show GO _ _ _ _ _ (⟨none, none, _⟩ :: _) _; refine go_st (hk := ?_)) | (show GO _ _ _ _ _ (⟨_, some _, _⟩ :: _) _; first | refine go_in (hk := ?_) | refine go_out (hk := ?_) | refine go_void (hk := ?_)) | (show GK _ _ _ _ (blockK _ _ _); refine gk_past rfl ?_) | (show GC _ _ _ _ _ (.cond _ _ _) _; first | refine gc_yes (h1 := ?_) | refine gc_no (h1 := ?_))))
      exact gk_cut () (by (repeat (refine Cov.cons (by exact rfl) ?_)); exact Cov.nil) .nil
  (repeat (first | refine gst (hk := ?_) | (show GO _ _ _ _ _ (⟨some _, none, .call _ _⟩ :: _) _; first | (refine go_callg rfl code_spec_DrawStripByPairs.callable (fun H hH => drawStripByPairs_ok hH (by exact Has.auto) (by assumption) (by omega)) ?_; intro g hg) | (refine go_callp rfl code_impl_StripByPairs.callable (fun H hH => implStripByPairs_t (hH.ints (by exact Has.auto)) (hH.ints (by exact Has.auto)) (by omega) (by omega)) ?_) | (refine go_callp rfl code_spec_StripByPairs.callable (fun H hH => specStripByPairs_t (hH.ints (by exact Has.auto)) (hH.ints (by exact Has.auto)) (by omega) (by omega)) ?_) | (refine go_callp rfl code_impl_StripByThrees.callable (fun H hH => implStripByThrees_t (hH.ints (by exact Has.auto)) (hH.ints (by exact Has.auto)) (by omega) (by omega)) ?_) | (refine go_callp rfl code_laws_greatest.callable (fun H hH => greatest_ok (hH.ints (by exact Has.auto)) (by omega) (by omega)) ?_) | (refine go_calln rfl code_laws_negated.callable (fun H hH => negated_ok (hH.ints (by exact Has.auto)) (by omega) (by assumption)) ?_; intro u)) | (show GO _ _ _ _ _ (⟨some _, none, _⟩ :: _) _; first | refine go_op (hk := ?_) | (refine go_nw (hk := ?_); intro u; try simp only [llc, lln, lna, lza]) | (refine go_np (hk := ?_); intro id)) | (show GO _ _ _ _ _ (⟨none, none, _⟩ :: _) _; refine go_st (hk := ?_)) | (show GO _ _ _ _ _ (⟨_, some _, _⟩ :: _) _; first | refine go_in (hk := ?_) | refine go_out (hk := ?_) | refine go_void (hk := ?_)) | (show GK _ _ _ _ (blockK _ _ _); refine gk_past rfl ?_) | (show GC _ _ _ _ _ (.cond _ _ _) _; first | refine gc_yes (h1 := ?_) | refine gc_no (h1 := ?_))))
  exact gk_ret rfl fun H' hH => (bool_yes hrng).symm

end Go.Rx.Try
