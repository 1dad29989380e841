/-
  RxN: lists of numbers in memory; what is the call's own.
-/
import Derived.Test.YtophpmdlgphihapRxI
namespace Go.Rx
set_option linter.unusedVariables false
set_option linter.unusedSimpArgs false

/-- old blocks are as they were -/
structure Le (H H' : Heap) : Prop where
  size : H.size ≤ H'.size
  get : ∀ id, id < H.size → H'.get id = H.get id
  ob : H'.ob = H.ob

theorem Le.refl (H : Heap) : Le H H := ⟨Nat.le_refl _, fun _ _ => rfl, rfl⟩
theorem Le.trans {A B C : Heap} (h : Le A B) (k : Le B C) : Le A C := ⟨Nat.le_trans h.size k.size, fun id hi => (k.get id (Nat.lt_of_lt_of_le hi h.size)).trans (h.get id hi), k.ob.trans h.ob⟩
theorem Le.ext (H : Heap) (n : Nat) : Le H (H.ext n) := ⟨by simp [Heap.ext], fun _ _ => rfl, rfl⟩
theorem Le.new {A H : Heap} (h : Le A H) {id : Nat} (hid : A.size ≤ id) (b : Option Blk) : Le A (H.new id b) :=
  ⟨Nat.le_trans h.size (Heap.size_le_new _ _ _), fun i hi => by rw [Heap.get_new, if_neg (by omega)]; exact h.get i hi, h.ob⟩
theorem Le.put {A H : Heap} (h : Le A H) {id : Nat} (hid : A.size ≤ id) (b : Option Blk) : Le A (H.put id b) :=
  ⟨h.size, fun i hi => by rw [Heap.get_put, if_neg (by omega)]; exact h.get i hi, h.ob⟩

/-- a slice that holds these cells -/
structure Vals (H : Heap) (v : AV) (es n : Nat) (cs : List AV) : Prop where
  sl : v.isSlice = true
  len : v.len = n
  esn : v = .nilSlice ∨ v.es = some es
  cells : cs.length = n * es
  row : H.row v = some cs
  bid : ∀ k, v.bid = some k → k < H.size

theorem Vals.esz {H : Heap} {v : AV} {es n : Nat} {cs : List AV} (h : Vals H v es n cs) (hn : 0 < n) : v.es = some es := by
  rcases h.esn with he | he
  · have := h.len; rw [he] at this; simp only [AV.len] at this; omega
  · exact he

def ints (xs : List Int) : List AV := xs.map (.int .i64)

/-- the number at a place -/
def nth (xs : List Int) (i : Nat) : Int := xs.getD i 0
theorem nth_of {xs : List Int} {i : Nat} (h : i < xs.length) : nth xs i = xs[i] := by simp [nth, h]

/-- a slice of ints -/
def Ints (H : Heap) (v : AV) (xs : List Int) : Prop := Vals H v 1 xs.length (ints xs)

theorem row_get {H H' : Heap} {v : AV} (h : ∀ k, v.bid = some k → H'.get k = H.get k) : H'.row v = H.row v := by
  by_cases hg : ∃ g off, v = .gl g off
  · obtain ⟨g, off, rfl⟩ := hg; rfl
  apply row_congr
  intro id hid
  cases v <;> simp [vid] at hid
  · subst hid; exact h _ rfl
  · exact absurd ⟨_, _, rfl⟩ hg
  · subst hid; exact h _ rfl

theorem Vals.mono {H H' : Heap} {v : AV} {es n : Nat} {cs : List AV} (h : Vals H v es n cs) (hl : Le H H') : Vals H' v es n cs :=
  ⟨h.sl, h.len, h.esn, h.cells, by rw [row_get fun k hk => hl.get k (h.bid k hk)]; exact h.row, fun k hk => Nat.lt_of_lt_of_le (h.bid k hk) hl.size⟩

theorem Ints.mono {H H' : Heap} {v : AV} {xs : List Int} (h : Ints H v xs) (hl : Le H H') : Ints H' v xs := Vals.mono h hl

theorem Vals.elem {H : Heap} {v : AV} {es n : Nat} {cs : List AV} (h : Vals H v es n cs) {i : Nat} (hi : i < n) : H.read (v.elem i) es = some ((cs.drop (i * es)).take es) := by
  have h1 := h.len
  have h2 := h.esz (by omega)
  have h3 := h.row
  have h4 := h.cells
  cases v <;> simp only [AV.len, AV.es, reduceCtorEq] at h1 h2
  · rename_i id off m cap es'
    subst h1
    simp only [Option.some.injEq] at h2; subst h2
    simp only [Heap.row] at h3
    rw [if_neg (by omega)] at h3
    simp only [AV.elem]
    simp only [Heap.read] at h3 ⊢
    split at h3
    · rename_i b hb
      split at h3
      · rename_i hlen
        simp only [Option.some.injEq] at h3
        subst h3
        have hm : i * es' + es' ≤ m * es' := by rw [← Nat.succ_mul]; exact Nat.mul_le_mul_right _ hi
        rw [if_pos (by omega)]
        rw [List.drop_take, List.drop_drop, List.take_take]
        congr 2
        omega
      · cases h3
    · cases h3

theorem Ints.elem {H : Heap} {v : AV} {xs : List Int} (h : Ints H v xs) {i : Nat} (hi : i < xs.length) : H.read (v.elem i) 1 = some [.int .i64 (nth xs i)] := by
  rw [Vals.elem h hi]
  congr 1
  simp only [ints, Nat.mul_one]
  rw [List.drop_eq_getElem_cons (by simpa using hi)]
  simp [nth, List.getD, hi]

theorem Ints.sl {H : Heap} {v : AV} {xs : List Int} (h : Ints H v xs) : v.isSlice = true := Vals.sl h
theorem Ints.len {H : Heap} {v : AV} {xs : List Int} (h : Ints H v xs) : v.len = xs.length := Vals.len h
theorem Ints.es {H : Heap} {v : AV} {xs : List Int} (h : Ints H v xs) {i : Nat} (hi : i < xs.length) : v.es = some 1 := Vals.esz h (by omega)
theorem Ints.row {H : Heap} {v : AV} {xs : List Int} (h : Ints H v xs) : H.row v = some (ints xs) := Vals.row h

theorem ints_one (xs : List Int) : (ints xs).all AV.one = true := by simp [ints, AV.one]
theorem ints_length (xs : List Int) : (ints xs).length = xs.length := by simp [ints]
theorem ints_append (xs ys : List Int) : ints (xs ++ ys) = ints xs ++ ints ys := by simp [ints]

/-- a slice that the call itself has made, and may lengthen; A: the heap at the call -/
structure Own (A H : Heap) (v : AV) (es n : Nat) (cs : List AV) : Prop where
  cells : cs.length = n * es
  is : (v = .nilSlice ∧ n = 0) ∨ ∃ id, v = .slice id 0 n none es ∧ A.size ≤ id ∧ id < H.size ∧ H.get id = some ⟨true, cs⟩

theorem Own.vals {A H : Heap} {v : AV} {es n : Nat} {cs : List AV} (h : Own A H v es n cs) : Vals H v es n cs := by
  have hc := h.cells
  rcases h.is with ⟨rfl, rfl⟩ | ⟨id, rfl, h1, h2, h3⟩
  · have : cs = [] := List.eq_nil_of_length_eq_zero (by simpa using hc)
    subst this
    exact ⟨rfl, rfl, by simp, by simp, rfl, by simp [AV.bid]⟩
  · refine ⟨rfl, rfl, .inr rfl, hc, ?_, ?_⟩
    · simp only [Heap.row]
      split
      · rename_i hn; subst hn
        have : cs = [] := List.eq_nil_of_length_eq_zero (by simpa using hc)
        rw [this]
      · simp only [Heap.read, h3]
        rw [if_pos (by omega)]
        simp [← hc]
    · intro k hk; simp [AV.bid] at hk; omega

theorem Own.nil (A H : Heap) (es : Nat) : Own A H .nilSlice es 0 [] := ⟨by simp, .inl ⟨rfl, rfl⟩⟩

theorem Own.fresh {A H : Heap} {id es n : Nat} {cs : List AV} (hc : cs.length = n * es) (hid : A.size ≤ id) : Own A (H.new id (some ⟨true, cs⟩)) (.slice id 0 n none es) es n cs :=
  ⟨hc, .inr ⟨id, rfl, hid, Heap.lt_new _ _ _, by simp [Heap.get_new]⟩⟩

/-- what is owned at a later call's heap too -/
theorem Own.base {A B H : Heap} {v : AV} {es n : Nat} {cs : List AV} (h : Own B H v es n cs) (hl : A.size ≤ B.size) : Own A H v es n cs :=
  ⟨h.cells, by
    rcases h.is with h1 | ⟨id, h1, h2, h3⟩
    · exact .inl h1
    · exact .inr ⟨id, h1, by omega, h3⟩⟩

/-- kept by whatever leaves its block -/
theorem Own.keep {A H H' : Heap} {v : AV} {es n : Nat} {cs : List AV} (h : Own A H v es n cs) (hs : H.size ≤ H'.size) (hg : ∀ k, v.bid = some k → H'.get k = H.get k) : Own A H' v es n cs :=
  ⟨h.cells, by
    rcases h.is with h1 | ⟨id, rfl, h2, h3, h4⟩
    · exact .inl h1
    · exact .inr ⟨id, rfl, h2, by omega, by rw [hg id rfl]; exact h4⟩⟩

theorem Own.mono {A H H' : Heap} {v : AV} {es n : Nat} {cs : List AV} (h : Own A H v es n cs) (hl : Le H H') : Own A H' v es n cs := by
  have hv := h.vals
  exact h.keep hl.size fun k hk => hl.get k (hv.bid k hk)

theorem Own.bid_ge {A H : Heap} {v : AV} {es n : Nat} {cs : List AV} (h : Own A H v es n cs) : ∀ k, v.bid = some k → A.size ≤ k := by
  intro k hk
  rcases h.is with ⟨rfl, _⟩ | ⟨id, rfl, h2, _⟩
  · simp [AV.bid] at hk
  · simp [AV.bid] at hk; omega

/-- append: what was owned is lengthened -/
theorem mapp_own {A H : Heap} {nid es bytes n m : Nat} {x y : AV} {cs news : List AV} (hx : Own A H x es n cs) (hy : Vals H y es m news) (hone : news.all AV.one = true) (he : 0 < es) (hb : (n + m) * bytes ≤ 140737488355328) (hm : n + m ≤ maxLen) (hA : A.size ≤ nid) (hl : Le A H) :
    ∃ v H', mapp nid H x y es bytes = some (v, H') ∧ Own A H' v es (n + m) (cs ++ news) ∧ Le A H' ∧ H.size ≤ H'.size ∧ (∀ k, k ≠ nid → x.bid ≠ some k → H'.get k = H.get k) ∧ (v.bid = x.bid ∨ v.bid = some nid) := by
  have hc := hx.cells
  unfold mapp
  rw [if_pos hy.sl, hy.row]
  simp only
  rw [if_pos ⟨by rw [hy.cells, hy.len], hone, he⟩, hy.len]
  have hcm : (cs ++ news).length = (n + m) * es := by rw [List.length_append, hc, hy.cells, Nat.add_mul]
  rcases hx.is with ⟨rfl, rfl⟩ | ⟨id, rfl, h1, h2, h3⟩
  · have hcs : cs = [] := List.eq_nil_of_length_eq_zero (by simpa using hc)
    subst hcs
    simp only
    by_cases h0 : m = 0
    · subst h0
      have hn : news = [] := List.eq_nil_of_length_eq_zero (by simpa using hy.cells)
      subst hn
      exact ⟨_, _, by rw [if_pos rfl], Own.nil A H es, hl, Nat.le_refl _, fun _ _ _ => rfl, .inl rfl⟩
    · rw [if_neg h0, if_pos ⟨by simpa using hb, by simpa using hm⟩]
      refine ⟨_, _, rfl, ?_, hl.new hA _, Heap.size_le_new _ _ _, fun k hk _ => by rw [Heap.get_new, if_neg hk], .inr rfl⟩
      rw [Nat.zero_add, List.nil_append]
      exact Own.fresh hy.cells hA
  · simp only
    by_cases h0 : m = 0
    · subst h0
      have hn : news = [] := List.eq_nil_of_length_eq_zero (by simpa using hy.cells)
      subst hn
      refine ⟨.slice id 0 n none es, H, by rw [if_pos rfl], ⟨by simpa using hc, .inr ⟨id, by simp, h1, h2, by simpa using h3⟩⟩, hl, Nat.le_refl _, fun _ _ _ => rfl, .inl rfl⟩
    · rw [if_neg h0, if_pos ⟨hb, hm, trivial⟩, h3]
      simp only
      rw [if_pos (by omega)]
      simp only [if_true]
      have e : (cs.drop 0).take (n * es) = cs := by rw [List.drop_zero, ← hc, List.take_length]
      rw [e]
      refine ⟨_, _, rfl, Own.fresh hcm hA, (hl.put h1 _).new hA _, Heap.size_le_new (H.put id none) nid _, ?_, .inr rfl⟩
      intro k hk hk2
      rw [Heap.get_new, if_neg hk, Heap.get_put, if_neg]
      intro e; subst e; exact hk2 rfl

def OwnI (A H : Heap) (v : AV) (xs : List Int) : Prop := Own A H v 1 xs.length (ints xs)
theorem OwnI.ints {A H : Heap} {v : AV} {xs : List Int} (h : OwnI A H v xs) : Ints H v xs := Own.vals h

/-- a list written in the text -/
theorem ints_lit {H : Heap} {id : Nat} {xs : List Int} {b : Bool} {c : Option Nat} (h : H.get id = some ⟨b, ints xs⟩) (hid : id < H.size) : Ints H (.slice id 0 xs.length c 1) xs := by
  refine ⟨rfl, rfl, .inr rfl, by simp [ints_length], ?_, by intro k hk; simp [AV.bid] at hk; omega⟩
  simp only [Heap.row]
  split
  · rename_i hn
    have : xs = [] := List.eq_nil_of_length_eq_zero hn
    subst this; rfl
  · simp only [Heap.read, h]
    rw [if_pos (by simp [ints_length])]
    rw [List.drop_zero, Nat.mul_one, ← ints_length xs, List.take_length]

end Go.Rx
