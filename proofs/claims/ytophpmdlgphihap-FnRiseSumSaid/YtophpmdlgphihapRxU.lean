/-
  RxU: operations over symbolic states.
-/
import Derived.Test.YtophpmdlgphihapRxT
namespace Go.Rx
set_option linter.unusedVariables false
set_option linter.unusedSimpArgs false

def EnvOk (E : List (Nat × AV)) (τ : Nat → AV) : Prop := ∀ i v, look E i = some v → τ i = v

/-- what an operation yields, and the blocks behind it -/
structure Stp (A : Heap) (X : List Nat) (E : List (Nat × AV)) (S : Sig) (op : MOp) (R : AV → Sig → Prop) : Prop where
  stp : ∀ τ H m nid, EnvOk E τ → SOk A X S m H → m ≤ nid → ∃ v S' H' m', R v S' ∧ mstep nid τ H op = some (v, H') ∧ SOk A X S' m' H' ∧ m ≤ m' ∧ m' ≤ nid + 1 ∧ H.size ≤ H'.size

def Is (v : AV) (S : Sig) : AV → Sig → Prop := fun a b => a = v ∧ b = S
def New (S : AV → Sig) : AV → Sig → Prop := fun a b => b = S a
def NewP (S : Nat → Sig) : AV → Sig → Prop := fun a b => ∃ id, a = .ptr id 0 ∧ b = S id

section
variable {A : Heap} {X : List Nat} {E : List (Nat × AV)} {S S0 : Sig} {v w : AV} {x y p : MX} {k : IntKind} {a b : Int}

theorem stp_pure {op : MOp} {v : AV} (h : ∀ τ H m nid, EnvOk E τ → SOk A X S m H → mstep nid τ H op = some (v, H)) : Stp A X E S op (Is v S) :=
  ⟨fun τ H m nid hE hS hm => ⟨v, S, H, m, ⟨rfl, rfl⟩, h τ H m nid hE hS, hS, Nat.le_refl _, by omega, Nat.le_refl _⟩⟩

theorem stp_mv (hx : evE E x = some v := by exact rfl) : Stp A X E S (.mv x) (Is v S) :=
  stp_pure fun τ H m nid hE hS => by simp only [mstep, ev_of hE hx]

theorem stp_bin {op : BinOp} {u v w : AV} (hx : evE E x = some u) (hy : evE E y = some v) (h : mbin op u v = some w) : Stp A X E S (.bin op x y) (Is w S) :=
  stp_pure fun τ H m nid hE hS => by simp only [mstep, ev_of hE hx, ev_of hE hy, h, Option.map_some]

theorem stp_add (hx : evE E x = some (.int .i64 a) := by exact rfl) (hy : evE E y = some (.int .i64 b) := by exact rfl) (hw : -9223372036854775808 ≤ a + b ∧ a + b ≤ 9223372036854775807 := by omega) : Stp A X E S (.bin .add x y) (Is (.int .i64 (a + b)) S) :=
  stp_bin hx hy (by simp only [mbin, shifts, Bool.false_eq_true, if_false, if_true]; rw [wrap64_id hw.1 hw.2])
theorem stp_addn {n : Nat} (hx : evE E x = some (.int .i64 (n : Int)) := by exact rfl) (hy : evE E y = some (.int .i64 1) := by exact rfl) (hw : n ≤ 9223372036854775806 := by omega) : Stp A X E S (.bin .add x y) (Is (.int .i64 ((n + 1 : Nat) : Int)) S) :=
  stp_bin hx hy (by simp only [mbin, shifts, Bool.false_eq_true, if_false, if_true]; rw [wrap64_id (by omega) (by omega)]; simp)
theorem stp_sub (hx : evE E x = some (.int .i64 a) := by exact rfl) (hy : evE E y = some (.int .i64 b) := by exact rfl) (hw : -9223372036854775808 ≤ a - b ∧ a - b ≤ 9223372036854775807 := by omega) : Stp A X E S (.bin .sub x y) (Is (.int .i64 (a - b)) S) :=
  stp_bin hx hy (by simp only [mbin, shifts, Bool.false_eq_true, if_false, if_true]; rw [wrap64_id hw.1 hw.2])
theorem stp_mul (hx : evE E x = some (.int .i64 a) := by exact rfl) (hy : evE E y = some (.int .i64 b) := by exact rfl) (hw : -9223372036854775808 ≤ a * b ∧ a * b ≤ 9223372036854775807 := by omega) : Stp A X E S (.bin .mul x y) (Is (.int .i64 (a * b)) S) :=
  stp_bin hx hy (by simp only [mbin, shifts, Bool.false_eq_true, if_false, if_true]; rw [wrap64_id hw.1 hw.2])
theorem stp_quo (hx : evE E x = some (.int .i64 a) := by exact rfl) (hy : evE E y = some (.int .i64 b) := by exact rfl) (hb : b ≠ 0 := by omega) (hw : -9223372036854775808 ≤ a.tdiv b ∧ a.tdiv b ≤ 9223372036854775807 := by omega) : Stp A X E S (.bin .quo x y) (Is (.int .i64 (a.tdiv b)) S) :=
  stp_bin hx hy (by simp only [mbin, shifts, Bool.false_eq_true, if_false, if_true, if_neg hb]; rw [wrap64_id hw.1 hw.2])
theorem stp_quon (hx : evE E x = some (.int .i64 a) := by exact rfl) (hy : evE E y = some (.int .i64 b) := by exact rfl) (hb : 0 ≤ a ∧ 0 < b ∧ a ≤ 9223372036854775807 := by omega) : Stp A X E S (.bin .quo x y) (Is (.int .i64 (a / b)) S) :=
  stp_bin hx hy (by
    have h0 : ¬ b = 0 := by omega
    have h1 : a.tdiv b = a / b := Int.tdiv_eq_ediv_of_nonneg hb.1
    have h2 : 0 ≤ a / b := Int.ediv_nonneg hb.1 (by omega)
    have h3 : a / b ≤ a := Int.ediv_le_self _ hb.1
    simp only [mbin, shifts, Bool.false_eq_true, if_false, if_true, if_neg h0]; rw [h1, wrap64_id (by omega) (by omega)])
theorem stp_rem (hx : evE E x = some (.int k a) := by exact rfl) (hy : evE E y = some (.int k b) := by exact rfl) (hb : b ≠ 0 := by omega) : Stp A X E S (.bin .rem x y) (Is (.int k (a.tmod b)) S) :=
  stp_bin hx hy (by simp only [mbin, shifts, Bool.false_eq_true, if_false, if_true, if_neg hb])
theorem stp_remn (hx : evE E x = some (.int k a) := by exact rfl) (hy : evE E y = some (.int k b) := by exact rfl) (hb : 0 ≤ a ∧ 0 < b := by omega) : Stp A X E S (.bin .rem x y) (Is (.int k (a % b)) S) :=
  stp_bin hx hy (by
    have h0 : ¬ b = 0 := by omega
    simp only [mbin, shifts, Bool.false_eq_true, if_false, if_true, if_neg h0]; rw [Int.tmod_eq_emod_of_nonneg hb.1])
theorem stp_lt (hx : evE E x = some (.int k a) := by exact rfl) (hy : evE E y = some (.int k b) := by exact rfl) : Stp A X E S (.bin .lss x y) (Is (.bool (decide (a < b))) S) :=
  stp_bin hx hy (by simp only [mbin, shifts, Bool.false_eq_true, if_false, if_true])
theorem stp_le (hx : evE E x = some (.int k a) := by exact rfl) (hy : evE E y = some (.int k b) := by exact rfl) : Stp A X E S (.bin .leq x y) (Is (.bool (decide (a ≤ b))) S) :=
  stp_bin hx hy (by simp only [mbin, shifts, Bool.false_eq_true, if_false, if_true])
theorem stp_gt (hx : evE E x = some (.int k a) := by exact rfl) (hy : evE E y = some (.int k b) := by exact rfl) : Stp A X E S (.bin .gtr x y) (Is (.bool (decide (b < a))) S) :=
  stp_bin hx hy (by simp only [mbin, shifts, Bool.false_eq_true, if_false, if_true])
theorem stp_ge (hx : evE E x = some (.int k a) := by exact rfl) (hy : evE E y = some (.int k b) := by exact rfl) : Stp A X E S (.bin .geq x y) (Is (.bool (decide (b ≤ a))) S) :=
  stp_bin hx hy (by simp only [mbin, shifts, Bool.false_eq_true, if_false, if_true])
theorem stp_eq (hx : evE E x = some (.int k a) := by exact rfl) (hy : evE E y = some (.int k b) := by exact rfl) : Stp A X E S (.bin .eql x y) (Is (.bool (decide (a = b))) S) :=
  stp_bin hx hy (by simp only [mbin, shifts, Bool.false_eq_true, if_false, if_true]; rw [beq_dec])
theorem stp_ne (hx : evE E x = some (.int k a) := by exact rfl) (hy : evE E y = some (.int k b) := by exact rfl) : Stp A X E S (.bin .neq x y) (Is (.bool (decide (a ≠ b))) S) :=
  stp_bin hx hy (by simp only [mbin, shifts, Bool.false_eq_true, if_false, if_true]; rw [bne_dec])

theorem stp_seq {u w : List UInt8} (hx : evE E x = some (.str u) := by exact rfl) (hy : evE E y = some (.str w) := by exact rfl) : Stp A X E S (.bin .eql x y) (Is (.bool (decide (u = w))) S) :=
  stp_bin hx hy (by simp only [mbin]; congr 2; rw [Bool.eq_iff_iff, beq_iff_eq, decide_eq_true_eq])
theorem stp_sne {u w : List UInt8} (hx : evE E x = some (.str u) := by exact rfl) (hy : evE E y = some (.str w) := by exact rfl) : Stp A X E S (.bin .neq x y) (Is (.bool (decide (u ≠ w))) S) :=
  stp_bin hx hy (by
    have : (u == w) = decide (u = w) := by rw [Bool.eq_iff_iff, beq_iff_eq, decide_eq_true_eq]
    simp only [mbin, this, decide_not])
theorem stp_beq {b c : Bool} {ng : Bool} (hx : evE E x = some (.bool b) := by exact rfl) (hy : evE E y = some (.bool c) := by exact rfl) : Stp A X E S (.beq ng x y) (Is (.bool (if ng = true then !(b == c) else b == c)) S) :=
  stp_pure fun τ H m nid hE hS => by simp only [mstep, ev_of hE hx, ev_of hE hy]
theorem stp_peqnn {ng : Bool} (hx : evE E x = some .nilPtr := by exact rfl) (hy : evE E y = some .nilPtr := by exact rfl) : Stp A X E S (.peq ng x y) (Is (.bool (!ng)) S) :=
  stp_pure fun τ H m nid hE hS => by simp only [mstep, ev_of hE hx, ev_of hE hy]
theorem stp_peqpn {ng : Bool} {i o : Nat} (hx : evE E x = some (.ptr i o) := by exact rfl) (hy : evE E y = some .nilPtr := by exact rfl) : Stp A X E S (.peq ng x y) (Is (.bool ng) S) :=
  stp_pure fun τ H m nid hE hS => by simp only [mstep, ev_of hE hx, ev_of hE hy]
theorem stp_notd {q : Prop} [Decidable q] (hx : evE E x = some (.bool (decide q)) := by exact rfl) : Stp A X E S (.un .not x) (Is (.bool (decide (¬ q))) S) :=
  stp_pure fun τ H m nid hE hS => by simp only [mstep, ev_of hE hx, mun, Option.map_some, dec_not]
theorem stp_not {b : Bool} (hx : evE E x = some (.bool b) := by exact rfl) : Stp A X E S (.un .not x) (Is (.bool (!b)) S) :=
  stp_pure fun τ H m nid hE hS => by simp only [mstep, ev_of hE hx, mun, Option.map_some]
theorem stp_neg (hx : evE E x = some (.int .i64 a) := by exact rfl) (hw : -9223372036854775808 ≤ -a ∧ -a ≤ 9223372036854775807 := by omega) : Stp A X E S (.un .neg x) (Is (.int .i64 (-a)) S) :=
  stp_pure fun τ H m nid hE hS => by
    have h0 : (0 : Int) - a = -a := by omega
    simp only [mstep, ev_of hE hx, mun, Option.map_some, h0]; rw [wrap64_id hw.1 hw.2]
theorem stp_conv {k' : IntKind} (hx : evE E x = some (.int k a) := by exact rfl) : Stp A X E S (.conv k' x) (Is (.int k' (k'.wrap a)) S) :=
  stp_pure fun τ H m nid hE hS => by simp only [mstep, ev_of hE hx]
theorem stp_pick {q : Bool} {c : MX} (hc : evE E c = some (.bool q) := by exact rfl) (hx : evE E x = some v := by exact rfl) (hy : evE E y = some w := by exact rfl) : Stp A X E S (.pick c x y) (Is (if q = true then v else w) S) :=
  stp_pure fun τ H m nid hE hS => by simp only [mstep, ev_of hE hc, ev_of hE hx, ev_of hE hy]
theorem stp_max (hx : evE E x = some (.int k a) := by exact rfl) (hy : evE E y = some (.int k b) := by exact rfl) : Stp A X E S (.mnmx true x [y]) (Is (.int k (max a b)) S) :=
  stp_pure fun τ H m nid hE hS => by
    simp only [mstep, ev_of hE hx, List.map_cons, List.map_nil, ev_of hE hy, mfold, if_true, Option.map_some]
    have : (if b > a then b else a) = max a b := by omega
    rw [this]
theorem stp_min (hx : evE E x = some (.int k a) := by exact rfl) (hy : evE E y = some (.int k b) := by exact rfl) : Stp A X E S (.mnmx false x [y]) (Is (.int k (min a b)) S) :=
  stp_pure fun τ H m nid hE hS => by
    simp only [mstep, ev_of hE hx, List.map_cons, List.map_nil, ev_of hE hy, mfold, if_true, Option.map_some, Bool.false_eq_true, if_false]
    have : (if b < a then b else a) = min a b := by omega
    rw [this]
theorem stp_min3 {c : Int} {z : MX} (hx : evE E x = some (.int k a) := by exact rfl) (hy : evE E y = some (.int k b) := by exact rfl) (hz : evE E z = some (.int k c) := by exact rfl) : Stp A X E S (.mnmx false x [y, z]) (Is (.int k (min (min a b) c)) S) :=
  stp_pure fun τ H m nid hE hS => by
    simp only [mstep, ev_of hE hx, List.map_cons, List.map_nil, ev_of hE hy, ev_of hE hz, mfold, if_true, Option.map_some, Bool.false_eq_true, if_false]
    have : (if b < a then b else a) = min a b := by omega
    rw [this]
    have : (if c < min a b then c else min a b) = min (min a b) c := by omega
    rw [this]
theorem stp_max3 {c : Int} {z : MX} (hx : evE E x = some (.int k a) := by exact rfl) (hy : evE E y = some (.int k b) := by exact rfl) (hz : evE E z = some (.int k c) := by exact rfl) : Stp A X E S (.mnmx true x [y, z]) (Is (.int k (max (max a b) c)) S) :=
  stp_pure fun τ H m nid hE hS => by
    simp only [mstep, ev_of hE hx, List.map_cons, List.map_nil, ev_of hE hy, ev_of hE hz, mfold, if_true, Option.map_some, Bool.false_eq_true, if_false]
    have : (if b > a then b else a) = max a b := by omega
    rw [this]
    have : (if c > max a b then c else max a b) = max (max a b) c := by omega
    rw [this]

theorem stp_len {es n : Nat} {cs : List AV} (hx : evE E x = some v := by exact rfl) (hh : Has S v es n cs := by first | exact Has.ro | exact Has.rw | exact Has.tail Has.ro | exact Has.tail Has.rw | exact Has.tail (Has.tail Has.ro) | exact Has.tail (Has.tail Has.rw) | exact Has.tail (Has.tail (Has.tail Has.ro)) | exact Has.tail (Has.tail (Has.tail Has.rw)) | exact Has.tail (Has.tail (Has.tail (Has.tail Has.ro))) | exact Has.tail (Has.tail (Has.tail (Has.tail Has.rw))) | exact Has.tail (Has.tail (Has.tail (Has.tail (Has.tail Has.ro)))) | exact Has.tail (Has.tail (Has.tail (Has.tail (Has.tail Has.rw)))) | exact Has.tail (Has.tail (Has.tail (Has.tail (Has.tail (Has.tail Has.ro))))) | exact Has.tail (Has.tail (Has.tail (Has.tail (Has.tail (Has.tail Has.rw))))) | exact Has.tail (Has.tail (Has.tail (Has.tail (Has.tail (Has.tail (Has.tail Has.ro)))))) | exact Has.tail (Has.tail (Has.tail (Has.tail (Has.tail (Has.tail (Has.tail Has.rw)))))) | exact Has.tail (Has.tail (Has.tail (Has.tail (Has.tail (Has.tail (Has.tail (Has.tail Has.ro))))))) | exact Has.tail (Has.tail (Has.tail (Has.tail (Has.tail (Has.tail (Has.tail (Has.tail Has.rw))))))) | exact Has.tail (Has.tail (Has.tail (Has.tail (Has.tail (Has.tail (Has.tail (Has.tail (Has.tail Has.ro)))))))) | exact Has.tail (Has.tail (Has.tail (Has.tail (Has.tail (Has.tail (Has.tail (Has.tail (Has.tail Has.rw))))))))) : Stp A X E S (.len x) (Is (.int .i64 (n : Int)) S) :=
  stp_pure fun τ H m nid hE hS => by
    have hv := hS.valsA hh
    simp only [mstep, ev_of hE hx, hv.sl, if_true, hv.len]
theorem stp_lens {s : List UInt8} (hx : evE E x = some (.str s) := by exact rfl) : Stp A X E S (.lens x) (Is (.int .i64 (s.length : Int)) S) :=
  stp_pure fun τ H m nid hE hS => by simp only [mstep, ev_of hE hx]
theorem stp_ixa {es n i : Nat} {cs : List AV} (hx : evE E x = some v := by exact rfl) (hy : evE E y = some (.int k (i : Int)) := by exact rfl) (hh : Has S v es n cs := by first | exact Has.ro | exact Has.rw | exact Has.tail Has.ro | exact Has.tail Has.rw | exact Has.tail (Has.tail Has.ro) | exact Has.tail (Has.tail Has.rw) | exact Has.tail (Has.tail (Has.tail Has.ro)) | exact Has.tail (Has.tail (Has.tail Has.rw)) | exact Has.tail (Has.tail (Has.tail (Has.tail Has.ro))) | exact Has.tail (Has.tail (Has.tail (Has.tail Has.rw))) | exact Has.tail (Has.tail (Has.tail (Has.tail (Has.tail Has.ro)))) | exact Has.tail (Has.tail (Has.tail (Has.tail (Has.tail Has.rw)))) | exact Has.tail (Has.tail (Has.tail (Has.tail (Has.tail (Has.tail Has.ro))))) | exact Has.tail (Has.tail (Has.tail (Has.tail (Has.tail (Has.tail Has.rw))))) | exact Has.tail (Has.tail (Has.tail (Has.tail (Has.tail (Has.tail (Has.tail Has.ro)))))) | exact Has.tail (Has.tail (Has.tail (Has.tail (Has.tail (Has.tail (Has.tail Has.rw)))))) | exact Has.tail (Has.tail (Has.tail (Has.tail (Has.tail (Has.tail (Has.tail (Has.tail Has.ro))))))) | exact Has.tail (Has.tail (Has.tail (Has.tail (Has.tail (Has.tail (Has.tail (Has.tail Has.rw))))))) | exact Has.tail (Has.tail (Has.tail (Has.tail (Has.tail (Has.tail (Has.tail (Has.tail (Has.tail Has.ro)))))))) | exact Has.tail (Has.tail (Has.tail (Has.tail (Has.tail (Has.tail (Has.tail (Has.tail (Has.tail Has.rw))))))))) (hb : i < n := by omega) : Stp A X E S (.ixa x y es) (Is (v.elem i) S) :=
  stp_pure fun τ H m nid hE hS => by
    have hv := hS.valsA hh
    have h1 : 0 ≤ (i : Int) ∧ (i : Int) < (n : Int) ∧ v.es = some es := ⟨by omega, by omega, hv.esz (by omega)⟩
    simp only [mstep, ev_of hE hx, ev_of hE hy, hv.len]
    rw [if_pos h1]; simp
theorem stp_ixaz {es n : Nat} {cs : List AV} (hx : evE E x = some v := by exact rfl) (hy : evE E y = some (.int k a) := by exact rfl) (hh : Has S v es n cs := by first | exact Has.ro | exact Has.rw | exact Has.tail Has.ro | exact Has.tail Has.rw | exact Has.tail (Has.tail Has.ro) | exact Has.tail (Has.tail Has.rw) | exact Has.tail (Has.tail (Has.tail Has.ro)) | exact Has.tail (Has.tail (Has.tail Has.rw)) | exact Has.tail (Has.tail (Has.tail (Has.tail Has.ro))) | exact Has.tail (Has.tail (Has.tail (Has.tail Has.rw))) | exact Has.tail (Has.tail (Has.tail (Has.tail (Has.tail Has.ro)))) | exact Has.tail (Has.tail (Has.tail (Has.tail (Has.tail Has.rw)))) | exact Has.tail (Has.tail (Has.tail (Has.tail (Has.tail (Has.tail Has.ro))))) | exact Has.tail (Has.tail (Has.tail (Has.tail (Has.tail (Has.tail Has.rw))))) | exact Has.tail (Has.tail (Has.tail (Has.tail (Has.tail (Has.tail (Has.tail Has.ro)))))) | exact Has.tail (Has.tail (Has.tail (Has.tail (Has.tail (Has.tail (Has.tail Has.rw)))))) | exact Has.tail (Has.tail (Has.tail (Has.tail (Has.tail (Has.tail (Has.tail (Has.tail Has.ro))))))) | exact Has.tail (Has.tail (Has.tail (Has.tail (Has.tail (Has.tail (Has.tail (Has.tail Has.rw))))))) | exact Has.tail (Has.tail (Has.tail (Has.tail (Has.tail (Has.tail (Has.tail (Has.tail (Has.tail Has.ro)))))))) | exact Has.tail (Has.tail (Has.tail (Has.tail (Has.tail (Has.tail (Has.tail (Has.tail (Has.tail Has.rw))))))))) (hb : 0 ≤ a ∧ a < n := by omega) : Stp A X E S (.ixa x y es) (Is (v.elem a.toNat) S) :=
  stp_pure fun τ H m nid hE hS => by
    have hv := hS.valsA hh
    have h1 : 0 ≤ a ∧ a < (n : Int) ∧ v.es = some es := ⟨by omega, by omega, hv.esz (by omega)⟩
    simp only [mstep, ev_of hE hx, ev_of hE hy, hv.len]
    rw [if_pos h1]
theorem stp_ld {n i : Nat} {xs : List Int} (hp : evE E p = some (v.elem i) := by exact rfl) (hh : Has S v 1 n (ints xs) := by first | exact Has.ro | exact Has.rw | exact Has.tail Has.ro | exact Has.tail Has.rw | exact Has.tail (Has.tail Has.ro) | exact Has.tail (Has.tail Has.rw) | exact Has.tail (Has.tail (Has.tail Has.ro)) | exact Has.tail (Has.tail (Has.tail Has.rw)) | exact Has.tail (Has.tail (Has.tail (Has.tail Has.ro))) | exact Has.tail (Has.tail (Has.tail (Has.tail Has.rw))) | exact Has.tail (Has.tail (Has.tail (Has.tail (Has.tail Has.ro)))) | exact Has.tail (Has.tail (Has.tail (Has.tail (Has.tail Has.rw)))) | exact Has.tail (Has.tail (Has.tail (Has.tail (Has.tail (Has.tail Has.ro))))) | exact Has.tail (Has.tail (Has.tail (Has.tail (Has.tail (Has.tail Has.rw))))) | exact Has.tail (Has.tail (Has.tail (Has.tail (Has.tail (Has.tail (Has.tail Has.ro)))))) | exact Has.tail (Has.tail (Has.tail (Has.tail (Has.tail (Has.tail (Has.tail Has.rw)))))) | exact Has.tail (Has.tail (Has.tail (Has.tail (Has.tail (Has.tail (Has.tail (Has.tail Has.ro))))))) | exact Has.tail (Has.tail (Has.tail (Has.tail (Has.tail (Has.tail (Has.tail (Has.tail Has.rw))))))) | exact Has.tail (Has.tail (Has.tail (Has.tail (Has.tail (Has.tail (Has.tail (Has.tail (Has.tail Has.ro)))))))) | exact Has.tail (Has.tail (Has.tail (Has.tail (Has.tail (Has.tail (Has.tail (Has.tail (Has.tail Has.rw))))))))) (hb : i < n := by omega) : Stp A X E S (.ld p 1 false) (Is (.int .i64 (nth xs i)) S) :=
  stp_pure fun τ H m nid hE hS => by
    have hv := hS.ints hh
    have hn : n = xs.length := by have := (hS.valsA hh).len; rw [hv.len] at this; exact this.symm
    simp only [mstep, ev_of hE hp, hv.elem (by omega : i < xs.length), packC, Option.map_some, Bool.false_eq_true, if_false]

theorem stp_st {n i : Nat} {xs : List Int} (hp : evE E p = some (v.elem i) := by exact rfl) (hx : evE E x = some (.int .i64 a) := by exact rfl) (hs : Sel S ⟨.rw, v, 1, n, ints xs⟩ S0 := by first | exact Sel.head | exact Sel.tail Sel.head | exact Sel.tail (Sel.tail Sel.head) | exact Sel.tail (Sel.tail (Sel.tail Sel.head)) | exact Sel.tail (Sel.tail (Sel.tail (Sel.tail Sel.head))) | exact Sel.tail (Sel.tail (Sel.tail (Sel.tail (Sel.tail Sel.head)))) | exact Sel.tail (Sel.tail (Sel.tail (Sel.tail (Sel.tail (Sel.tail Sel.head))))) | exact Sel.tail (Sel.tail (Sel.tail (Sel.tail (Sel.tail (Sel.tail (Sel.tail Sel.head)))))) | exact Sel.tail (Sel.tail (Sel.tail (Sel.tail (Sel.tail (Sel.tail (Sel.tail (Sel.tail Sel.head))))))) | exact Sel.tail (Sel.tail (Sel.tail (Sel.tail (Sel.tail (Sel.tail (Sel.tail (Sel.tail (Sel.tail Sel.head))))))))) (hb : i < n := by omega) : Stp A X E S (.st p x 1) (Is .any (⟨.rw, v, 1, n, ints (xs.set i a)⟩ :: S0)) := by
  refine ⟨?_⟩
  intro τ H m nid hE hS hm
  have hS' := hS.sel hs
  have hc := hS'.ch ⟨.rw, v, 1, n, ints xs⟩ (by simp)
  obtain ⟨h1, h2, h3⟩ := hc
  simp only at h1 h2 h3
  have hn : n = xs.length := by simpa [Rx.ints] using h2.symm
  rcases h3 with ⟨_, h3⟩ | ⟨id, rfl, h4, h5⟩
  · omega
  · have hH : H.write (AV.elem (.slice id 0 n none 1) i) [.int .i64 a] = some (H.put id (some ⟨true, ints (xs.set i a)⟩)) := by
      simp only [AV.elem, Heap.write, h5]
      rw [if_pos (by simp [ints_length, AV.one]; omega)]
      congr 3
      simp only [Nat.zero_add, Nat.mul_one, List.length_cons, List.length_nil]
      simp only [Rx.ints, List.map_set]
      rw [List.set_eq_take_append_cons_drop, if_pos (by simp; omega)]
      simp
    refine ⟨.any, _, H.put id (some ⟨true, ints (xs.set i a)⟩), m, ⟨rfl, rfl⟩, ?_, ?_, Nat.le_refl _, by omega, Nat.le_refl _⟩
    · simp only [mstep, ev_of hE hp, ev_of hE hx, AV.cells, List.length_cons, List.length_nil, if_true, hH, Option.map_some]
    · refine hS'.mod rfl ?_ (Nat.le_refl _) hS.mh ?_ (.inl rfl)
      · intro id' _ hne
        rw [Heap.get_put, if_neg]
        intro e; subst e; exact hne rfl
      · refine ⟨h1, by simp [Rx.ints, hn], .inr ⟨id, rfl, h4, by simp [Heap.get_put]⟩⟩

theorem stp_mk {n : Nat} (hx : evE E x = some (.int .i64 (n : Int)) := by exact rfl) (hy : evE E y = some (.int .i64 (n : Int)) := by exact rfl) (hn : n ≤ 1000000000000 := by omega) : Stp A X E S (.mks x y [.int .i64 0] 1 8) (New fun v => ⟨.rw, v, 1, n, ints (List.replicate n 0)⟩ :: S) := by
  refine ⟨?_⟩
  intro τ H m nid hE hS hm
  have hs := Heap.lt_new H nid (some ⟨true, ints (List.replicate n 0)⟩)
  refine ⟨.slice nid 0 n none 1, _, H.new nid (some ⟨true, ints (List.replicate n 0)⟩), nid + 1, rfl, ?_, ?_, by omega, Nat.le_refl _, Heap.size_le_new _ _ _⟩
  · simp only [mstep, ev_of hE hx, ev_of hE hy]
    rw [if_pos (by omega)]
    simp only [Int.toNat_natCast, zrep_ints]
  · refine hS.add ?_ (by omega) hs ⟨?_, ?_, .inr ⟨nid, rfl, .inl (by have := hS.am; omega), by simp [Heap.get_new]⟩⟩ ?_
    · intro id hid; rw [Heap.get_new, if_neg (by omega)]
    · intro k hk; simp only [AV.bid, Option.some.injEq] at hk; omega
    · simp [Rx.ints]
    · intro k hk; simp only [AV.bid, Option.some.injEq] at hk; omega
theorem stp_mkz (hx : evE E x = some (.int .i64 a) := by exact rfl) (hy : evE E y = some (.int .i64 a) := by exact rfl) (hn : 0 ≤ a ∧ a ≤ 1000000000000 := by omega) : Stp A X E S (.mks x y [.int .i64 0] 1 8) (New fun v => ⟨.rw, v, 1, a.toNat, ints (List.replicate a.toNat 0)⟩ :: S) := by
  have e : a = ((a.toNat : Nat) : Int) := by omega
  rw [e] at hx hy
  exact stp_mk hx hy (by omega)

/-- a list written in the text -/
def partsI (E : List (Nat × AV)) : Nat → List (Nat × MX) → Option (List Int)
  | _, [] => some []
  | i, q :: r => bif Nat.beq q.1 i then match evE E q.2, partsI E (i + 1) r with
    | some (.int .i64 a), some l => some (a :: l)
    | _, _ => none
    else none

theorem partsI_fill {τ : Nat → AV} (hE : EnvOk E τ) : ∀ (parts : List (Nat × MX)) (i : Nat) (xs : List Int) (pre : List Int), partsI E i parts = some xs → pre.length = i →
    fillL (ints pre ++ zrep [.int .i64 0] (parts.length * 1)) (parts.map fun q => (q.1 * 1, 1, q.2.ev τ)) = some (ints (pre ++ xs)) ∧ parts.length = xs.length
  | [], i, xs, pre, h, hp => by
    simp only [partsI, Option.some.injEq] at h; subst h
    simp [fillL, zrep]
  | q :: r, i, xs, pre, h, hp => by
    simp only [partsI] at h
    cases hb : Nat.beq q.1 i with
    | false => rw [hb] at h; cases h
    | true =>
      rw [hb] at h
      simp only [cond_true] at h
      split at h
      · rename_i a l ha hl
        simp only [Option.some.injEq] at h; subst h
        have hq := Nat.eq_of_beq_eq_true hb
        obtain ⟨ih, hlen⟩ := partsI_fill hE r (i + 1) l (pre ++ [a]) hl (by simp [hp])
        refine ⟨?_, by simp [hlen]⟩
        simp only [List.map_cons, fillL, ev_of hE ha]
        rw [zrep_ints] at ih ⊢
        have hlen1 : (ints pre).length = i := by rw [ints_length, hp]
        rw [if_pos (by simp [AV.cells, AV.one, hlen1, hq, Rx.ints]; omega)]
        simp only [AV.cells]
        rw [hq, Nat.mul_one]
        have e1 : (ints pre ++ ints (List.replicate (q :: r).length 0)).take i = ints pre := by
          rw [List.take_append_of_le_length (by omega), ← hlen1, List.take_length]
        have e2 : (ints pre ++ ints (List.replicate (q :: r).length 0)).drop (i + 1) = ints (List.replicate r.length 0) := by
          rw [List.drop_append, List.drop_eq_nil_of_le (by omega), hlen1, List.nil_append]
          simp [Rx.ints]
        rw [e1, e2]
        have e3 : ints pre ++ [AV.int .i64 a] = ints (pre ++ [a]) := by simp [Rx.ints]
        rw [e3, ih]
        simp
      · cases h

theorem stp_bsl {n : Nat} {parts : List (Nat × MX)} {xs : List Int} (hp : partsI E 0 parts = some xs := by exact rfl) (hn : parts.length = n := by exact rfl) : Stp A X E S (.bsl n 1 [.int .i64 0] parts) (New fun v => ⟨.rw, v, 1, n, ints xs⟩ :: S) := by
  refine ⟨?_⟩
  intro τ H m nid hE hS hm
  obtain ⟨hf, hlen⟩ := partsI_fill hE parts 0 xs [] hp rfl
  rw [hn] at hf hlen
  have hs := Heap.lt_new H nid (some ⟨true, ints xs⟩)
  refine ⟨.slice nid 0 n none 1, _, H.new nid (some ⟨true, ints xs⟩), nid + 1, rfl, ?_, ?_, by omega, Nat.le_refl _, Heap.size_le_new _ _ _⟩
  · simp only [mstep]
    have e : fillL (zrep [.int .i64 0] (n * 1)) (parts.map fun q => (q.1 * 1, 1, q.2.ev τ)) = some (ints xs) := by simpa [Rx.ints] using hf
    rw [e]
  · refine hS.add ?_ (by omega) hs ⟨?_, ?_, .inr ⟨nid, rfl, .inl (by have := hS.am; omega), by simp [Heap.get_new]⟩⟩ ?_
    · intro id hid; rw [Heap.get_new, if_neg (by omega)]
    · intro k hk; simp only [AV.bid, Option.some.injEq] at hk; omega
    · simp [Rx.ints, hlen]
    · intro k hk; simp only [AV.bid, Option.some.injEq] at hk; omega

/-- lists of strings -/
def strs (l : List (List UInt8)) : List AV := l.map .str
theorem strs_length (l : List (List UInt8)) : (strs l).length = l.length := by simp [strs]
def nthS (l : List (List UInt8)) (i : Nat) : List UInt8 := l.getD i []
def partsS (E : List (Nat × AV)) : Nat → List (Nat × MX) → Option (List (List UInt8))
  | _, [] => some []
  | i, q :: r => bif Nat.beq q.1 i then match evE E q.2, partsS E (i + 1) r with
    | some (.str a), some l => some (a :: l)
    | _, _ => none
    else none
theorem partsS_fill {τ : Nat → AV} (hE : EnvOk E τ) {z : AV} : ∀ (parts : List (Nat × MX)) (i : Nat) (xs : List (List UInt8)) (pre : List (List UInt8)), partsS E i parts = some xs → pre.length = i →
    fillL (strs pre ++ zrep [z] (parts.length * 1)) (parts.map fun q => (q.1 * 1, 1, q.2.ev τ)) = some (strs (pre ++ xs)) ∧ parts.length = xs.length
  | [], i, xs, pre, h, hp => by
    simp only [partsS, Option.some.injEq] at h; subst h
    simp [fillL, zrep]
  | q :: r, i, xs, pre, h, hp => by
    simp only [partsS] at h
    cases hb : Nat.beq q.1 i with
    | false => rw [hb] at h; cases h
    | true =>
      rw [hb] at h
      simp only [cond_true] at h
      split at h
      · rename_i a l ha hl
        simp only [Option.some.injEq] at h; subst h
        have hq := Nat.eq_of_beq_eq_true hb
        obtain ⟨ih, hlen⟩ := partsS_fill hE r (i + 1) l (pre ++ [a]) hl (by simp [hp])
        refine ⟨?_, by simp [hlen]⟩
        simp only [List.map_cons, fillL, ev_of hE ha]
        have hz : ∀ k, zrep [z] (k * 1) = List.replicate k z := fun k => by
          unfold zrep
          rw [Nat.mul_one]
          refine List.ext_getElem (by simp) fun i h1 h2 => ?_
          simp [Nat.mod_one]
        rw [hz] at ih ⊢
        have hlen1 : (strs pre).length = i := by rw [strs_length, hp]
        rw [if_pos (by simp [AV.cells, AV.one, hlen1, hq])]
        simp only [AV.cells]
        rw [hq, Nat.mul_one]
        have e1 : (strs pre ++ List.replicate (q :: r).length z).take i = strs pre := by
          rw [List.take_append_of_le_length (by omega), ← hlen1, List.take_length]
        have e2 : (strs pre ++ List.replicate (q :: r).length z).drop (i + 1) = List.replicate r.length z := by
          rw [List.drop_append, List.drop_eq_nil_of_le (by omega), hlen1, List.nil_append]
          simp
        rw [e1, e2]
        have e3 : strs pre ++ [AV.str a] = strs (pre ++ [a]) := by simp [strs]
        rw [e3, ih]
        simp
      · cases h
theorem stp_bslS {n : Nat} {parts : List (Nat × MX)} {xs : List (List UInt8)} {z : AV} (hp : partsS E 0 parts = some xs := by exact rfl) (hn : parts.length = n := by exact rfl) : Stp A X E S (.bsl n 1 [z] parts) (New fun v => ⟨.rw, v, 1, n, strs xs⟩ :: S) := by
  refine ⟨?_⟩
  intro τ H m nid hE hS hm
  obtain ⟨hf, hlen⟩ := partsS_fill hE (z := z) parts 0 xs [] hp rfl
  rw [hn] at hf hlen
  have hs := Heap.lt_new H nid (some ⟨true, strs xs⟩)
  refine ⟨.slice nid 0 n none 1, _, H.new nid (some ⟨true, strs xs⟩), nid + 1, rfl, ?_, ?_, by omega, Nat.le_refl _, Heap.size_le_new _ _ _⟩
  · simp only [mstep]
    have e : fillL (zrep [z] (n * 1)) (parts.map fun q => (q.1 * 1, 1, q.2.ev τ)) = some (strs xs) := by simpa [strs] using hf
    rw [e]
  · refine hS.add ?_ (by omega) hs ⟨?_, ?_, .inr ⟨nid, rfl, .inl (by have := hS.am; omega), by simp [Heap.get_new]⟩⟩ ?_
    · intro id hid; rw [Heap.get_new, if_neg (by omega)]
    · intro k hk; simp only [AV.bid, Option.some.injEq] at hk; omega
    · simp [strs, hlen]
    · intro k hk; simp only [AV.bid, Option.some.injEq] at hk; omega
theorem stp_lds {n i : Nat} {l : List (List UInt8)} (hp : evE E p = some (v.elem i) := by exact rfl) (hh : Has S v 1 n (strs l) := by first | exact Has.ro | exact Has.rw | exact Has.tail Has.ro | exact Has.tail Has.rw | exact Has.tail (Has.tail Has.ro) | exact Has.tail (Has.tail Has.rw) | exact Has.tail (Has.tail (Has.tail Has.ro)) | exact Has.tail (Has.tail (Has.tail Has.rw))) (hi : i < n := by omega) : Stp A X E S (.ld p 1 false) (Is (.str (nthS l i)) S) :=
  stp_pure fun τ H m nid hE hS => by
    have hv := hS.valsA hh
    have hn : l.length = n := by have := hv.cells; simpa [strs] using this
    simp only [mstep, ev_of hE hp, hv.elem hi]
    have e : ((strs l).drop (i * 1)).take 1 = [.str (nthS l i)] := by
      simp only [strs, Nat.mul_one]
      rw [List.drop_eq_getElem_cons (by simp; omega)]
      have hi' : i < l.length := by omega
      simp [nthS, List.getD, hi']
    rw [e]; rfl

/-- append to what is one's own -/
theorem stp_app {es n m' bytes : Nat} {cs news : List AV} (hx : evE E x = some v := by exact rfl) (hy : evE E y = some w := by exact rfl) (hs : Sel S ⟨.rw, v, es, n, cs⟩ S0 := by first | exact Sel.head | exact Sel.tail Sel.head | exact Sel.tail (Sel.tail Sel.head) | exact Sel.tail (Sel.tail (Sel.tail Sel.head)) | exact Sel.tail (Sel.tail (Sel.tail (Sel.tail Sel.head))) | exact Sel.tail (Sel.tail (Sel.tail (Sel.tail (Sel.tail Sel.head)))) | exact Sel.tail (Sel.tail (Sel.tail (Sel.tail (Sel.tail (Sel.tail Sel.head))))) | exact Sel.tail (Sel.tail (Sel.tail (Sel.tail (Sel.tail (Sel.tail (Sel.tail Sel.head)))))) | exact Sel.tail (Sel.tail (Sel.tail (Sel.tail (Sel.tail (Sel.tail (Sel.tail (Sel.tail Sel.head))))))) | exact Sel.tail (Sel.tail (Sel.tail (Sel.tail (Sel.tail (Sel.tail (Sel.tail (Sel.tail (Sel.tail Sel.head))))))))) (hh : Has S w es m' news := by first | exact Has.ro | exact Has.rw | exact Has.tail Has.ro | exact Has.tail Has.rw | exact Has.tail (Has.tail Has.ro) | exact Has.tail (Has.tail Has.rw) | exact Has.tail (Has.tail (Has.tail Has.ro)) | exact Has.tail (Has.tail (Has.tail Has.rw)) | exact Has.tail (Has.tail (Has.tail (Has.tail Has.ro))) | exact Has.tail (Has.tail (Has.tail (Has.tail Has.rw))) | exact Has.tail (Has.tail (Has.tail (Has.tail (Has.tail Has.ro)))) | exact Has.tail (Has.tail (Has.tail (Has.tail (Has.tail Has.rw)))) | exact Has.tail (Has.tail (Has.tail (Has.tail (Has.tail (Has.tail Has.ro))))) | exact Has.tail (Has.tail (Has.tail (Has.tail (Has.tail (Has.tail Has.rw))))) | exact Has.tail (Has.tail (Has.tail (Has.tail (Has.tail (Has.tail (Has.tail Has.ro)))))) | exact Has.tail (Has.tail (Has.tail (Has.tail (Has.tail (Has.tail (Has.tail Has.rw)))))) | exact Has.tail (Has.tail (Has.tail (Has.tail (Has.tail (Has.tail (Has.tail (Has.tail Has.ro))))))) | exact Has.tail (Has.tail (Has.tail (Has.tail (Has.tail (Has.tail (Has.tail (Has.tail Has.rw))))))) | exact Has.tail (Has.tail (Has.tail (Has.tail (Has.tail (Has.tail (Has.tail (Has.tail (Has.tail Has.ro)))))))) | exact Has.tail (Has.tail (Has.tail (Has.tail (Has.tail (Has.tail (Has.tail (Has.tail (Has.tail Has.rw))))))))) (hone : news.all AV.one = true) (he : 0 < es) (hb : (n + m') * bytes ≤ 140737488355328 := by omega) (hm2 : n + m' ≤ 1000000000000 := by omega) :
    Stp A X E S (.app x y es bytes) (New fun u => ⟨.rw, u, es, n + m', cs ++ news⟩ :: S0) := by
  refine ⟨?_⟩
  intro τ H m nid hE hS hm
  have hS' := hS.sel hs
  have hc := hS'.ch ⟨.rw, v, es, n, cs⟩ (by simp)
  have hy' := hS.valsA hh
  obtain ⟨h1, h2, h3⟩ := hc
  simp only at h1 h2 h3
  have hml : n + m' ≤ maxLen := by simp only [maxLen]; omega
  have hcm : (cs ++ news).length = (n + m') * es := by rw [List.length_append, h2, hy'.cells, Nat.add_mul]
  have ham := hS.am
  simp only [mstep, ev_of hE hx, ev_of hE hy]
  unfold mapp
  rw [if_pos hy'.sl, hy'.row]
  simp only
  rw [if_pos ⟨by rw [hy'.cells, hy'.len], hone, he⟩, hy'.len]
  by_cases h0 : m' = 0
  · subst h0
    have hn : news = [] := List.eq_nil_of_length_eq_zero (by simpa using hy'.cells)
    subst hn
    refine ⟨v, _, H, m, rfl, ?_, ?_, Nat.le_refl _, by omega, Nat.le_refl _⟩
    · rcases h3 with ⟨rfl, rfl⟩ | ⟨id, rfl, h4, h5⟩ <;> simp
    · simpa using hS'
  · rcases h3 with ⟨rfl, rfl⟩ | ⟨id, rfl, h4, h5⟩
    · have hcs : cs = [] := List.eq_nil_of_length_eq_zero (by simpa using h2)
      subst hcs
      have hs := Heap.lt_new H nid (some ⟨true, news⟩)
      simp only
      rw [if_neg h0, if_pos ⟨by simpa using hb, by simpa using hml⟩]
      refine ⟨_, _, _, nid + 1, rfl, rfl, ?_, by omega, Nat.le_refl _, Heap.size_le_new _ _ _⟩
      rw [Nat.zero_add, List.nil_append]
      refine hS'.tail.add ?_ (by omega) hs ⟨?_, hy'.cells, .inr ⟨nid, rfl, .inl (by omega), by simp [Heap.get_new]⟩⟩ ?_
      · intro id hid; rw [Heap.get_new, if_neg (by omega)]
      · intro k hk; simp only [AV.bid, Option.some.injEq] at hk; omega
      · intro k hk; simp only [AV.bid, Option.some.injEq] at hk; omega
    · simp only
      rw [if_neg h0, if_pos ⟨hb, hml, trivial⟩, h5]
      simp only
      rw [if_pos (by omega)]
      simp only [if_true]
      have e : (cs.drop 0).take (n * es) = cs := by rw [List.drop_zero, ← h2, List.take_length]
      rw [e]
      have hs := Heap.lt_new (H.put id none) nid (some ⟨true, cs ++ news⟩)
      refine ⟨_, _, _, nid + 1, rfl, rfl, ?_, by omega, Nat.le_refl _, Heap.size_le_new (H.put id none) nid _⟩
      refine hS'.mod rfl ?_ (by omega) hs ⟨?_, hcm, .inr ⟨nid, rfl, .inl (by omega), by simp [Heap.get_new]⟩⟩ (.inr ?_)
      · intro id' hid' hne
        rw [Heap.get_new, if_neg (by omega), Heap.get_put, if_neg]
        intro e; subst e; exact hne rfl
      · intro k hk; simp only [AV.bid, Option.some.injEq] at hk; omega
      · intro k hk; simp only [AV.bid, Option.some.injEq] at hk; omega
theorem stp_appI {n m' : Nat} {xs ys : List Int} (hx : evE E x = some v := by exact rfl) (hy : evE E y = some w := by exact rfl) (hs : Sel S ⟨.rw, v, 1, n, ints xs⟩ S0 := by first | exact Sel.head | exact Sel.tail Sel.head | exact Sel.tail (Sel.tail Sel.head) | exact Sel.tail (Sel.tail (Sel.tail Sel.head)) | exact Sel.tail (Sel.tail (Sel.tail (Sel.tail Sel.head))) | exact Sel.tail (Sel.tail (Sel.tail (Sel.tail (Sel.tail Sel.head)))) | exact Sel.tail (Sel.tail (Sel.tail (Sel.tail (Sel.tail (Sel.tail Sel.head))))) | exact Sel.tail (Sel.tail (Sel.tail (Sel.tail (Sel.tail (Sel.tail (Sel.tail Sel.head)))))) | exact Sel.tail (Sel.tail (Sel.tail (Sel.tail (Sel.tail (Sel.tail (Sel.tail (Sel.tail Sel.head))))))) | exact Sel.tail (Sel.tail (Sel.tail (Sel.tail (Sel.tail (Sel.tail (Sel.tail (Sel.tail (Sel.tail Sel.head))))))))) (hh : Has S w 1 m' (ints ys) := by first | exact Has.ro | exact Has.rw | exact Has.tail Has.ro | exact Has.tail Has.rw | exact Has.tail (Has.tail Has.ro) | exact Has.tail (Has.tail Has.rw) | exact Has.tail (Has.tail (Has.tail Has.ro)) | exact Has.tail (Has.tail (Has.tail Has.rw)) | exact Has.tail (Has.tail (Has.tail (Has.tail Has.ro))) | exact Has.tail (Has.tail (Has.tail (Has.tail Has.rw))) | exact Has.tail (Has.tail (Has.tail (Has.tail (Has.tail Has.ro)))) | exact Has.tail (Has.tail (Has.tail (Has.tail (Has.tail Has.rw)))) | exact Has.tail (Has.tail (Has.tail (Has.tail (Has.tail (Has.tail Has.ro))))) | exact Has.tail (Has.tail (Has.tail (Has.tail (Has.tail (Has.tail Has.rw))))) | exact Has.tail (Has.tail (Has.tail (Has.tail (Has.tail (Has.tail (Has.tail Has.ro)))))) | exact Has.tail (Has.tail (Has.tail (Has.tail (Has.tail (Has.tail (Has.tail Has.rw)))))) | exact Has.tail (Has.tail (Has.tail (Has.tail (Has.tail (Has.tail (Has.tail (Has.tail Has.ro))))))) | exact Has.tail (Has.tail (Has.tail (Has.tail (Has.tail (Has.tail (Has.tail (Has.tail Has.rw))))))) | exact Has.tail (Has.tail (Has.tail (Has.tail (Has.tail (Has.tail (Has.tail (Has.tail (Has.tail Has.ro)))))))) | exact Has.tail (Has.tail (Has.tail (Has.tail (Has.tail (Has.tail (Has.tail (Has.tail (Has.tail Has.rw))))))))) (hm2 : n + m' ≤ 1000000000000 := by omega) :
    Stp A X E S (.app x y 1 8) (New fun u => ⟨.rw, u, 1, n + m', ints (xs ++ ys)⟩ :: S0) := by
  rw [show (fun u => (⟨.rw, u, 1, n + m', ints (xs ++ ys)⟩ : Ch) :: S0) = fun u => (⟨.rw, u, 1, n + m', ints xs ++ ints ys⟩ : Ch) :: S0 by funext u; rw [ints_append]]
  exact stp_app hx hy hs hh (ints_one ys) (by omega) (by omega) hm2

theorem stp_ext {vs : List AV} {i : Nat} (hx : evE E x = some (.tuple vs) := by exact rfl) (hv : vs[i]? = some v := by exact rfl) : Stp A X E S (.ext x i) (Is v S) :=
  stp_pure fun τ H m nid hE hS => by simp only [mstep, ev_of hE hx, hv, Option.map_some]
theorem stp_mkb {f : FuncId} {x : MX} {v : AV} (h : evE E x = some v := by exact rfl) : Stp A X E S (.mkb f x) (Is (.bound f v) S) :=
  stp_pure fun τ H m nid hE hS => by simp only [mstep, ev_of hE h]
theorem stp_mki {t : TypeId} {x : MX} {v : AV} (h : evE E x = some v := by exact rfl) : Stp A X E S (.mki t x) (Is (.iface t v) S) :=
  stp_pure fun τ H m nid hE hS => by simp only [mstep, ev_of hE h]
theorem stp_mkm {name : String} {x : MX} {t : TypeId} {v : AV} (h : evE E x = some (.iface t v) := by exact rfl) : Stp A X E S (.mkm name x) (Is (.imeth name t v) S) :=
  stp_pure fun τ H m nid hE hS => by simp only [mstep, ev_of hE h]
theorem stp_nilmf {f : FuncId} {cs : List AV} {x : MX} {tabs : List (String × List TypeId)} (h : evE E x = some (.func f cs) := by exact rfl) : Stp A X E S (.nilckm x tabs) (Is (.func f cs) S) :=
  stp_pure fun τ H m nid hE hS => by simp only [mstep, ev_of hE h]
theorem stp_nilmb {f : FuncId} {y : AV} {x : MX} {tabs : List (String × List TypeId)} (h : evE E x = some (.bound f y) := by exact rfl) : Stp A X E S (.nilckm x tabs) (Is (.bound f y) S) :=
  stp_pure fun τ H m nid hE hS => by simp only [mstep, ev_of hE h]
theorem stp_nilmm {name : String} {t : TypeId} {v : AV} {x : MX} {tabs : List (String × List TypeId)} (h : evE E x = some (.imeth name t v) := by exact rfl) (hm : hasM tabs name t = true := by decide) : Stp A X E S (.nilckm x tabs) (Is (.imeth name t v) S) :=
  stp_pure fun τ H m nid hE hS => by simp only [mstep, ev_of hE h, if_pos hm]
/-- a type is asserted -/
theorem stp_tasy {t : TypeId} {x : MX} {v z : AV} (h : evE E x = some (.iface t v) := by exact rfl) : Stp A X E S (.tas x t true z) (Is (.tuple [v, .bool true]) S) :=
  stp_pure fun τ H m nid hE hS => by simp only [mstep, ev_of hE h, if_true]
theorem stp_tasn {t t' : TypeId} {x : MX} {v z : AV} (h : evE E x = some (.iface t' v) := by exact rfl) (hn : Nat.beq t' t = false := by exact rfl) : Stp A X E S (.tas x t true z) (Is (.tuple [z, .bool false]) S) :=
  stp_pure fun τ H m nid hE hS => by
    have : ¬ t' = t := by intro e; subst e; simp at hn
    simp only [mstep, ev_of hE h, if_neg this, if_true]
theorem stp_tas1 {t : TypeId} {x : MX} {v z : AV} (h : evE E x = some (.iface t v) := by exact rfl) : Stp A X E S (.tas x t false z) (Is v S) :=
  stp_pure fun τ H m nid hE hS => by simp only [mstep, ev_of hE h, if_true, Bool.false_eq_true, if_false]
theorem stp_taiy {ts us : List TypeId} {t : TypeId} {x : MX} {v : AV} (h : evE E x = some (.iface t v) := by exact rfl) (hc : ts.contains t = true := by exact rfl) : Stp A X E S (.tai x ts us true) (Is (.tuple [.iface t v, .bool true]) S) :=
  stp_pure fun τ H m nid hE hS => by simp only [mstep, ev_of hE h, if_pos hc, if_true]
theorem stp_tain {ts us : List TypeId} {t : TypeId} {x : MX} {v : AV} (h : evE E x = some (.iface t v) := by exact rfl) (hc : ts.contains t = false := by exact rfl) (hd : us.contains t = true := by exact rfl) : Stp A X E S (.tai x ts us true) (Is (.tuple [.nilIface, .bool false]) S) :=
  stp_pure fun τ H m nid hE hS => by
    have : ¬ ts.contains t = true := by rw [hc]; simp
    simp only [mstep, ev_of hE h, if_neg this]
    rw [if_pos ⟨trivial, hd⟩]
theorem stp_mkf {f : FuncId} {l : List MX} {vs : List AV} (h : evsE E l = some vs := by exact rfl) : Stp A X E S (.mkf f l) (Is (.func f vs) S) :=
  stp_pure fun τ H m nid hE hS => by simp only [mstep, evs_of hE h]
theorem stp_fld {cs : List AV} {off n : Nat} {ag : Bool} (hx : evE E x = some (.agg cs) := by exact rfl) (ho : off + n ≤ cs.length := by decide) (hv : packC ag ((cs.drop off).take n) = some v := by exact rfl) : Stp A X E S (.fld x off n ag) (Is v S) :=
  stp_pure fun τ H m nid hE hS => by simp only [mstep, ev_of hE hx, if_pos ho, hv, Option.map_some]
theorem stp_nilp {id off : Nat} (hx : evE E x = some (.ptr id off) := by exact rfl) : Stp A X E S (.nilck x) (Is (.ptr id off) S) :=
  stp_pure fun τ H m nid hE hS => by simp only [mstep, ev_of hE hx]
theorem stp_fa {id o off : Nat} (hx : evE E x = some (.ptr id o) := by exact rfl) : Stp A X E S (.fa x off) (Is (.ptr id (o + off)) S) :=
  stp_pure fun τ H m nid hE hS => by simp only [mstep, ev_of hE hx]

/-- a part of a slice that is read only -/
theorem stp_slb {es n l h : Nat} {cs : List AV} {lo hi : Option MX} (hx : evE E x = some v := by exact rfl) (hs : Sel S ⟨.ro, v, es, n, cs⟩ S0 := by first | exact Sel.head | exact Sel.tail Sel.head | exact Sel.tail (Sel.tail Sel.head) | exact Sel.tail (Sel.tail (Sel.tail Sel.head)) | exact Sel.tail (Sel.tail (Sel.tail (Sel.tail Sel.head))) | exact Sel.tail (Sel.tail (Sel.tail (Sel.tail (Sel.tail Sel.head)))) | exact Sel.tail (Sel.tail (Sel.tail (Sel.tail (Sel.tail (Sel.tail Sel.head))))) | exact Sel.tail (Sel.tail (Sel.tail (Sel.tail (Sel.tail (Sel.tail (Sel.tail Sel.head)))))) | exact Sel.tail (Sel.tail (Sel.tail (Sel.tail (Sel.tail (Sel.tail (Sel.tail (Sel.tail Sel.head))))))) | exact Sel.tail (Sel.tail (Sel.tail (Sel.tail (Sel.tail (Sel.tail (Sel.tail (Sel.tail (Sel.tail Sel.head)))))))))
    (hlo : lo = none ∧ l = 0 ∨ ∃ z, lo = some z ∧ evE E z = some (.int .i64 (l : Int))) (hhi : hi = none ∧ h = n ∨ ∃ z, hi = some z ∧ evE E z = some (.int .i64 (h : Int))) (hb : l ≤ h ∧ h ≤ n) :
    Stp A X E S (.sl x lo hi none es) (fun u b => u.bid = v.bid ∧ b = ⟨.ro, u, es, h - l, (cs.drop (l * es)).take ((h - l) * es)⟩ :: ⟨.ro, v, es, n, cs⟩ :: S0) := by
  refine ⟨?_⟩
  intro τ H m nid hE hS hm
  have hS' := hS.sel hs
  have hc := hS'.ch ⟨.ro, v, es, n, cs⟩ (by simp)
  obtain ⟨h1, h2, h3, h4, h5, h6⟩ := hc
  simp only at h1 h2 h3 h4 h5 h6
  have elo : bnd h (lo.map (·.ev τ)) 0 = some l := by
    rcases hlo with ⟨rfl, rfl⟩ | ⟨z, rfl, hz⟩
    · rfl
    · simp only [Option.map_some, ev_of hE hz, bnd]; rw [if_pos (by omega)]; simp
  have ehi : bnd n (hi.map (·.ev τ)) n = some h := by
    rcases hhi with ⟨rfl, rfl⟩ | ⟨z, rfl, hz⟩
    · rfl
    · simp only [Option.map_some, ev_of hE hz, bnd]; rw [if_pos (by omega)]; simp
  have key : ∃ u, msl v (lo.map (·.ev τ)) (hi.map (·.ev τ)) none es = some u ∧ (u.bid = v.bid) ∧ u.isSlice = true ∧ u.len = h - l ∧ (u = .nilSlice ∨ u.es = some es) ∧ H.row u = some ((cs.drop (l * es)).take ((h - l) * es)) := by
    unfold msl
    rw [h3]
    have e0 : bnd n (none : Option AV) n = some n := rfl
    simp only [Option.map_none, e0, ehi, elo]
    cases v <;> simp only [AV.isSlice, Bool.false_eq_true] at h2
    · rename_i id off n' cap es'
      simp only [AV.len] at h3; subst h3
      by_cases hn : n' = 0
      · subst hn
        have hl0 : l = 0 := by omega
        have hh0 : h = 0 := by omega
        subst hl0; subst hh0
        have hcs : cs = [] := List.eq_nil_of_length_eq_zero (by simpa using h5)
        subst hcs
        simp only [reduceCtorEq, AV.es, Option.some.injEq, false_or] at h4; subst h4
        simp only [if_true]
        exact ⟨_, rfl, rfl, rfl, rfl, .inr rfl, by simp [Heap.row]⟩
      · simp only [reduceCtorEq, AV.es, Option.some.injEq, false_or] at h4; subst h4
        simp only [if_true]
        refine ⟨_, rfl, rfl, rfl, rfl, .inr rfl, ?_⟩
        simp only [Heap.row, if_neg hn] at h6
        simp only [Heap.row]
        split
        · rename_i hz; rw [hz]; simp
        · simp only [Heap.read] at h6 ⊢
          split at h6
          · rename_i b hb'
            split at h6
            · rename_i hlen
              simp only [Option.some.injEq] at h6
              subst h6
              have hm : l * es' + (h - l) * es' ≤ n' * es' := by rw [← Nat.add_mul]; exact Nat.mul_le_mul_right _ (by omega)
              rw [if_pos (by omega)]
              rw [List.drop_take, List.drop_drop, List.take_take]
              congr 2
              omega
            · cases h6
          · cases h6
    · simp only [AV.len] at h3; subst h3
      have hl0 : l = 0 := by omega
      have hh0 : h = 0 := by omega
      subst hl0; subst hh0
      have hcs : cs = [] := List.eq_nil_of_length_eq_zero (by simpa using h5)
      subst hcs
      exact ⟨_, rfl, rfl, rfl, rfl, .inl rfl, by simp [Heap.row]⟩
  obtain ⟨u, e1, e2, e3, e4, e5, e6⟩ := key
  refine ⟨u, _, H, m, ⟨e2, rfl⟩, ?_, ?_, Nat.le_refl _, by omega, Nat.le_refl _⟩
  · simp only [mstep, ev_of hE hx, Option.map_none, e1, Option.map_some]
  · refine ⟨hS.le, hS.am, hS.mh, fun d hd => ?_, ?_⟩
    · rcases List.mem_cons.1 hd with rfl | hd
      · refine ⟨fun k hk => h1 k (by simpa [e2] using hk), e3, e4, e5, ?_, e6⟩
        simp only [List.length_take, List.length_drop]
        have hm : l * es + (h - l) * es ≤ n * es := by rw [← Nat.add_mul]; exact Nat.mul_le_mul_right _ (by omega)
        omega
      · exact hS'.ch d hd
    · rw [List.pairwise_cons]
      refine ⟨fun d hd hw k hk1 hk2 => ?_, hS'.ap⟩
      rcases List.mem_cons.1 hd with rfl | hd
      · rcases hw with hw | hw <;> cases hw
      · simp only at hk1
        rw [e2] at hk1
        exact (List.pairwise_cons.1 hS'.ap).1 d hd (hw.imp (by intro h; cases h) id) k hk1 hk2
theorem stp_sl {es n l h : Nat} {cs : List AV} {lo hi : Option MX} (hx : evE E x = some v := by exact rfl) (hs : Sel S ⟨.ro, v, es, n, cs⟩ S0 := by first | exact Sel.head | exact Sel.tail Sel.head | exact Sel.tail (Sel.tail Sel.head) | exact Sel.tail (Sel.tail (Sel.tail Sel.head)) | exact Sel.tail (Sel.tail (Sel.tail (Sel.tail Sel.head))) | exact Sel.tail (Sel.tail (Sel.tail (Sel.tail (Sel.tail Sel.head)))) | exact Sel.tail (Sel.tail (Sel.tail (Sel.tail (Sel.tail (Sel.tail Sel.head))))) | exact Sel.tail (Sel.tail (Sel.tail (Sel.tail (Sel.tail (Sel.tail (Sel.tail Sel.head)))))) | exact Sel.tail (Sel.tail (Sel.tail (Sel.tail (Sel.tail (Sel.tail (Sel.tail (Sel.tail Sel.head))))))) | exact Sel.tail (Sel.tail (Sel.tail (Sel.tail (Sel.tail (Sel.tail (Sel.tail (Sel.tail (Sel.tail Sel.head)))))))))
    (hlo : lo = none ∧ l = 0 ∨ ∃ z, lo = some z ∧ evE E z = some (.int .i64 (l : Int))) (hhi : hi = none ∧ h = n ∨ ∃ z, hi = some z ∧ evE E z = some (.int .i64 (h : Int))) (hb : l ≤ h ∧ h ≤ n) :
    Stp A X E S (.sl x lo hi none es) (New fun u => ⟨.ro, u, es, h - l, (cs.drop (l * es)).take ((h - l) * es)⟩ :: ⟨.ro, v, es, n, cs⟩ :: S0) := by
  have h' := stp_slb (A := A) (X := X) (E := E) (S := S) (S0 := S0) (hx := hx) (hs := hs) hlo hhi hb
  refine ⟨fun τ H m nid hE hS hm => ?_⟩
  obtain ⟨u, S', H', m', ⟨_, h2⟩, h3⟩ := h'.stp τ H m nid hE hS hm
  exact ⟨u, S', H', m', h2, h3⟩
end
end Go.Rx
