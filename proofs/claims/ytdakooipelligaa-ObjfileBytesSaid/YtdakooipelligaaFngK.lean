/- Finger: the answers' TakeNumber, TakeText. -/
import Derived.Test.YtdakooipelligaaFngJ
namespace Go.Proofs.Ytdakooipelligaa
open Go.ChangeShapes Go.WideShapes Go.ChangeAt Go.RowKit
set_option linter.unusedVariables false
set_option linter.unusedSimpArgs false

theorem groupsP_err {zs : List Int} {err : Int} {most : Nat} (hz : err ≠ 0 → zs = []) (h : (groupsP zs err most).2.2 ≠ 0) : (groupsP zs err most).1 = 0 ∧ (groupsP zs err most).2.1 = [] := by
  by_cases h0 : err = 0
  · cases ht : takeG 0 zs with
    | error e =>
      rw [groupsP_bad ht]
      exact ⟨rfl, rfl⟩
    | ok p =>
      obtain ⟨n, r⟩ := p
      by_cases hn : most < n
      · rw [groupsP_big ht hn]
        exact ⟨rfl, rfl⟩
      · rw [groupsP_ok ht hn] at h
        exact absurd h0 h
  · rw [hz h0, groupsP_bad (takeG_nil 0)]
    exact ⟨rfl, rfl⟩

end Go.Proofs.Ytdakooipelligaa