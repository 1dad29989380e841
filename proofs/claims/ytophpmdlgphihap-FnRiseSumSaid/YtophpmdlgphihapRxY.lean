/-
  RxY: regions that draw and write, where nothing meets; numbers from 0 on.
-/
import Derived.Test.YtophpmdlgphihapRxX
namespace Go.Rx
set_option linter.unusedVariables false
set_option linter.unusedSimpArgs false

/-- operations of a region that draws its order and writes, none of which meet -/
structure GD (P : Program) (Qt : FuncId → List AV → Option AV) (base : Nat) (A : Heap) (X : List Nat) (E : List (Nat × AV)) (S : Sig) (l : List MI) (K : St → Prop) : Prop where
  g : ∀ k s m acc, EnvOk E s.τ → SOk A X S m s.H → m ≤ base + k → dops P Qt base k l s acc [] K

section
variable {P : Program} {Qt : FuncId → List AV → Option AV} {A : Heap} {X : List Nat} {E F : List (Nat × AV)} {S S' S0 : Sig} {Q : Exit → St → Prop} {K : St → Prop} {r : List MI} {d base : Nat} {v w : AV} {x y p : MX} {k : IntKind} {a b : Int}

theorem gc_drwq {l : List MI} (Qt : FuncId → List AV → Option AV) (hQ : ∀ H, QtOk P Qt H) (h : ∀ base, GD P Qt base A X E S l (Q .normal)) : GC P A X E S (.drw l []) Q := by
  refine ⟨fun s hf => ?_⟩
  rw [mwp_drw]
  refine ⟨Qt, dopsC_of (fun _ H _ => hQ H) ((h s.H.size).g 0 _ s.H.size [] hf.env ?_ (Nat.le_refl _))⟩
  exact hf.ok.same (fun _ _ => rfl) (Nat.le_refl _) (by simp [Heap.ext])
theorem gc_drw {l : List MI} (hc : l.all (fun m => !m.op.isCall) = true := by with_unfolding_all rfl) (h : ∀ base, GD P (fun _ _ => none) base A X E S l (Q .normal)) : GC P A X E S (.drw l []) Q :=
  gc_drwq (fun _ _ => none) (fun H f args r h => by cases h) h
theorem gd_call {f : FuncId} {args : List MX} {vs : List AV} (ha : evsE E args = some vs) (hq : Qt f vs = some v) (hk : GD P Qt base A X ((d, v) :: E) S r K) : GD P Qt base A X E S (⟨some d, none, .call f args⟩ :: r) K := by
  refine ⟨fun k s m acc hE hS hm => ?_⟩
  have e : dstep P Qt (base + k) ⟨some d, none, .call f args⟩ s = some (v, s.H) := by
    simp only [dstep, gcheck, mcallee, evs_of hE ha, hq]
  simp only [dops, e]
  exact hk.g (k + 1) _ m _ (look_cons hE d _) hS (by omega)
theorem gd_nil (h : GK A X E S K) : GD P Qt base A X E S [] K :=
  ⟨fun k s m acc hE hS hm => ⟨trivial, h.g s ⟨hE, hS.bump hS.mh (Nat.le_refl _)⟩⟩⟩
theorem dstep_plain2 {P : Program} {Qt : FuncId → List AV → Option AV} {op : MOp} {d : Option Nat} {s : St} {nid : Nat} (hp : op.isCall = false) : dstep P Qt nid ⟨d, none, op⟩ s = mstep nid s.τ s.H op := by
  cases op <;> simp only [MOp.isCall, Bool.true_eq_false] at hp <;> rfl
theorem gd_is {op : MOp} (hp : op.isCall = false) (hs : Stp A X E S op (Is v S')) (hk : GD P Qt base A X ((d, v) :: E) S' r K) : GD P Qt base A X E S (⟨some d, none, op⟩ :: r) K := by
  refine ⟨fun k s m acc hE hS hm => ?_⟩
  obtain ⟨v', S'', H', m', ⟨rfl, rfl⟩, h2, h3, h4, h5, h6⟩ := hs.stp s.τ s.H m (base + k) hE hS hm
  simp only [dops, dstep_plain2 hp, h2]
  exact hk.g (k + 1) _ m' _ (look_cons hE d _) h3 h5
theorem gd_is0 {op : MOp} (hp : op.isCall = false) (hs : Stp A X E S op (Is v S')) (hk : GD P Qt base A X E S' r K) : GD P Qt base A X E S (⟨none, none, op⟩ :: r) K := by
  refine ⟨fun k s m acc hE hS hm => ?_⟩
  obtain ⟨v', S'', H', m', ⟨rfl, rfl⟩, h2, h3, h4, h5, h6⟩ := hs.stp s.τ s.H m (base + k) hE hS hm
  simp only [dops, dstep_plain2 hp, h2]
  exact hk.g (k + 1) _ m' _ hE h3 h5
theorem gd_new {op : MOp} {N : AV → Sig} (hp : op.isCall = false) (hs : Stp A X E S op (New N)) (hk : ∀ v, GD P Qt base A X ((d, v) :: E) (N v) r K) : GD P Qt base A X E S (⟨some d, none, op⟩ :: r) K := by
  refine ⟨fun k s m acc hE hS hm => ?_⟩
  obtain ⟨v', S'', H', m', rfl, h2, h3, h4, h5, h6⟩ := hs.stp s.τ s.H m (base + k) hE hS hm
  simp only [dops, dstep_plain2 hp, h2]
  exact (hk v').g (k + 1) _ m' _ (look_cons hE d _) h3 h5

theorem stp_addnn {n j : Nat} (hx : evE E x = some (.int .i64 (n : Int)) := by exact rfl) (hy : evE E y = some (.int .i64 (j : Int)) := by exact rfl) (hw : n + j ≤ 9223372036854775807 := by omega) : Stp A X E S (.bin .add x y) (Is (.int .i64 ((n + j : Nat) : Int)) S) :=
  stp_bin hx hy (by simp only [mbin, shifts, Bool.false_eq_true, if_false, if_true]; rw [wrap64_id (by omega) (by omega)]; simp)
theorem stp_subn {n j : Nat} (hx : evE E x = some (.int .i64 (n : Int)) := by exact rfl) (hy : evE E y = some (.int .i64 (j : Int)) := by exact rfl) (hw : n ≤ 9223372036854775807 ∧ j ≤ n := by omega) : Stp A X E S (.bin .sub x y) (Is (.int .i64 ((n - j : Nat) : Int)) S) :=
  stp_bin hx hy (by simp only [mbin, shifts, Bool.false_eq_true, if_false, if_true]; rw [wrap64_id (by omega) (by omega)]; rw [Int.ofNat_sub hw.2])
theorem stp_mulnn {n j : Nat} (hx : evE E x = some (.int .i64 (n : Int)) := by exact rfl) (hy : evE E y = some (.int .i64 (j : Int)) := by exact rfl) (hw : n * j ≤ 9223372036854775807 := by omega) : Stp A X E S (.bin .mul x y) (Is (.int .i64 ((n * j : Nat) : Int)) S) :=
  stp_bin hx hy (by simp only [mbin, shifts, Bool.false_eq_true, if_false, if_true]; have : ((n : Int) * (j : Int)) = ((n * j : Nat) : Int) := by simp
                    rw [this, wrap64_id (by omega) (by omega)])
end
end Go.Rx
