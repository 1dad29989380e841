/-
  RxR: lists made by append, marks, counts.
-/
import Derived.Test.YtophpmdlgphihapRxO
namespace Go.Rx
set_option linter.unusedVariables false
set_option linter.unusedSimpArgs false

theorem fill0 (z : AV) : fillL (zrep [z] (0 * 1)) [] = some [] := rfl
theorem fill1 (z : AV) (k : IntKind) (n : Int) : fillL (zrep [z] (1 * 1)) [(0 * 1, 1, .int k n)] = some [.int k n] := rfl

theorem OwnI.none (A H : Heap) (h : A.size ≤ H.size) : OwnI A (H.new H.size (some ⟨true, []⟩)) (.slice H.size 0 0 .none 1) [] :=
  Own.fresh (cs := Rx.ints []) rfl h

/-- one number is put behind a list of one's own -/
theorem OwnI.app1 {A H : Heap} {v : AV} {xs : List Int} (h : OwnI A H v xs) (hl : Le A H) (hn : xs.length ≤ 1000000000000) (x : Int) :
    ∃ v' H', mapp (H.new H.size (some ⟨true, [.int .i64 x]⟩)).size (H.new H.size (some ⟨true, [.int .i64 x]⟩)) v (.slice H.size 0 1 .none 1) 1 8 = some (v', H') ∧ OwnI A H' v' (xs ++ [x]) ∧ Le A H' ∧ H.size ≤ H'.size ∧
      (∀ k, k < H.size → v.bid ≠ some k → H'.get k = H.get k) ∧ (v'.bid = v.bid ∨ ∀ k, v'.bid = some k → H.size ≤ k) := by
  have hs := Heap.size_le_new H H.size (some ⟨true, [.int .i64 x]⟩)
  have hlt := Heap.lt_new H H.size (some ⟨true, [.int .i64 x]⟩)
  have hle : Le H (H.new H.size (some ⟨true, [.int .i64 x]⟩)) := (Le.refl H).new (Nat.le_refl _) _
  have hy : Vals (H.new H.size (some ⟨true, [.int .i64 x]⟩)) (.slice H.size 0 1 .none 1) 1 1 [.int .i64 x] :=
    (Own.fresh (A := A) (n := 1) (cs := [.int .i64 x]) rfl hl.size).vals
  obtain ⟨v', H', e1, e2, e3, e4, e5, e6⟩ := mapp_own (bytes := 8) (nid := (H.new H.size (some ⟨true, [.int .i64 x]⟩)).size) (Own.mono h hle) hy (by simp [AV.one]) (by omega) (by omega) (by simp only [maxLen]; omega) (by have := hl.size; omega) (hl.trans hle)
  refine ⟨v', H', e1, ?_, e3, by omega, ?_, ?_⟩
  · unfold OwnI
    simp only [List.length_append, List.length_cons, List.length_nil, Rx.ints, List.map_append, List.map_cons, List.map_nil]
    exact e2
  · intro k hk hv
    rw [e5 k (by omega) hv]
    exact hle.get k hk
  · rcases e6 with e6 | e6
    · exact .inl e6
    · refine .inr fun k hk => ?_
      rw [e6] at hk
      simp only [Option.some.injEq] at hk
      omega

def marks (k : Int) (n : Nat) : List Int := (List.range n).map fun (i : Nat) => k + (i : Int)
theorem marks_length (k : Int) (n : Nat) : (marks k n).length = n := by simp [marks]
theorem marks_get (k : Int) {n i : Nat} (h : i < n) : nth (marks k n) i = k + i := by simp [nth, marks, List.getD, h]
theorem marks_succ (k : Int) (n : Nat) : marks k (n + 1) = marks k n ++ [k + n] := by simp [marks, List.range_succ]

theorem mark_step {xs : List Int} {i : Nat} {k : Int} (hi : i < xs.length) : (marks k i ++ xs.drop i).set i (k + i) = marks k (i + 1) ++ xs.drop (i + 1) := by
  rw [List.drop_eq_getElem_cons hi, List.set_append_right _ _ (by simp [marks_length]), marks_length, Nat.sub_self, List.set_cons_zero, marks_succ]
  simp

/-- how many of the first i -/
def cnt (p : Int → Bool) (xs : List Int) (i : Nat) : Nat := (xs.take i).countP p
theorem cnt_zero (p : Int → Bool) (xs : List Int) : cnt p xs 0 = 0 := by simp [cnt]
theorem cnt_succ (p : Int → Bool) {xs : List Int} {i : Nat} (h : i < xs.length) : cnt p xs (i + 1) = cnt p xs i + (if p (nth xs i) then 1 else 0) := by
  simp only [cnt, List.take_add_one, List.getElem?_eq_getElem h, Option.toList_some, List.countP_append, List.countP_cons, List.countP_nil, nth, List.getD, Option.getD_some, Nat.zero_add]
theorem cnt_le (p : Int → Bool) (xs : List Int) (i : Nat) : cnt p xs i ≤ xs.length := by
  refine Nat.le_trans (List.countP_le_length) ?_
  simp; omega
theorem cnt_all (p : Int → Bool) (xs : List Int) : cnt p xs xs.length = xs.countP p := by simp [cnt]

/-- twice a rank -/
def rank (xs : List Int) (x : Int) : Int := 2 * (xs.countP (fun y => decide (y < x)) : Int) + (xs.countP (fun y => decide (y = x)) : Int) + 1
def ranksL (xs : List Int) : List Int := xs.map (rank xs)
theorem ranksL_length (xs : List Int) : (ranksL xs).length = xs.length := by simp [ranksL]

theorem getD_map (f : Int → Int) {xs : List Int} {i : Nat} (h : i < xs.length) : nth (xs.map f) i = f (nth xs i) := by simp [nth, List.getD, h]

end Go.Rx
