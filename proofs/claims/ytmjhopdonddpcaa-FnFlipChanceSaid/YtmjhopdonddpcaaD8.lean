import Derived.Test.YtmjhopdonddpcaaD7
namespace Go.Rx.Try
open Go.Proofs
set_option maxRecDepth 100000
set_option maxHeartbeats 8000000
set_option linter.unusedSimpArgs false
set_option linter.unusedVariables false

theorem Data.app {xs ys : List Int} (h : Samples xs ys) : Data (xs ++ ys) := by
  obtain ⟨⟨h1, h2⟩, h3, h4, h5⟩ := h
  refine ⟨by simp; omega, fun i hi => ?_⟩
  by_cases h6 : i < xs.length
  · have : nth (xs ++ ys) i = nth xs i := by simp [nth, List.getElem?_append_left h6]
    rw [this]; exact h1.2 i h6
  · have : nth (xs ++ ys) i = nth ys (i - xs.length) := by simp [nth, List.getElem?_append_right (by omega : xs.length ≤ i)]
    rw [this]; exact h2.2 _ (by simp at hi; omega)

end Go.Rx.Try
