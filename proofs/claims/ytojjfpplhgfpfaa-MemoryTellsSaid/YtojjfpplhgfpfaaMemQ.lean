/- Package memory: Used, of any part of a layout that may be. -/
import Derived.Test.YtojjfpplhgfpfaaMemV
namespace Go.Proofs.Ytojjfpplhgfpfaa
open Go.ChangeShapes Go.WideShapes Go.ChangeAt Go.RowKit
set_option linter.unusedVariables false

theorem used_any (p h n a0 a1 a2 a3 : Nat) (k : Int) (e0 e1 e2 e3 e4 : Int) (ws : List Int) (w : World) (hk : U32 k) (hm : Whole w p 68 (memCells e0 e1 e2 e3 e4 h n)) (hw : Whole w h 22 (words ws)) (hn : ws.length = n) (hn2 : n ≤ 1000000) (hu : ∀ z ∈ ws, U32 z)
    (h0 : e0 = 4 * (a0 : Int)) (h1 : e1 = 4 * (a1 : Int)) (h2 : e2 = 4 * (a2 : Int)) (h3 : e3 = 4 * (a3 : Int)) (h4 : e4 = 4 * (n : Int)) (m0 : a0 ≤ a1) (m1 : a1 ≤ a2) (m2 : a2 ≤ a3) (m3 : a3 ≤ n) :
    Calls Try.prog 16 #[.pointer (some ⟨p, 0, none⟩), .int .i64 k] w fun e w' => e = .returned (.int .i64 (cntP ws (fun i => decide (partOf e0 e1 e2 e3 e4 (4 * (i : Int)) = k)) n)) ∧ Below w.heap.size w w' := by
  obtain ⟨k0, k1⟩ := hk
  rcases (show k = 0 ∨ k = 1 ∨ k = 2 ∨ k = 3 ∨ k = 4 ∨ 5 ≤ k by omega) with rfl | rfl | rfl | rfl | rfl | h5
  · have hc := words_0 p h n a0 e0 e1 e2 e3 e4 w hm h0 (by omega) (by omega) hn2
    rw [cntP_F ws _ 0 a0 n (by omega) (by omega) (fun t ht => by
      rw [decide_eq_true_eq]
      unfold partOf
      omega) n (Nat.le_refl _), show min n a0 - 0 = a0 - 0 by omega]
    exact used_some p h n 0 a0 0 e0 e1 e2 e3 e4 ws w hm hw hn (by omega) (by omega) hn2 hu hc
  · have hc := words_1 p h n a0 a1 e0 e1 e2 e3 e4 w hm h0 h1 (by omega) (by omega) hn2
    rw [cntP_F ws _ a0 a1 n (by omega) (by omega) (fun t ht => by
      rw [decide_eq_true_eq]
      unfold partOf
      omega) n (Nat.le_refl _), show min n a1 - a0 = a1 - a0 by omega]
    exact used_some p h n a0 a1 1 e0 e1 e2 e3 e4 ws w hm hw hn (by omega) (by omega) hn2 hu hc
  · have hc := words_2 p h n a1 a2 e0 e1 e2 e3 e4 w hm h1 h2 (by omega) (by omega) hn2
    rw [cntP_F ws _ a1 a2 n (by omega) (by omega) (fun t ht => by
      rw [decide_eq_true_eq]
      unfold partOf
      omega) n (Nat.le_refl _), show min n a2 - a1 = a2 - a1 by omega]
    exact used_some p h n a1 a2 2 e0 e1 e2 e3 e4 ws w hm hw hn (by omega) (by omega) hn2 hu hc
  · have hc := words_3 p h n a2 a3 e0 e1 e2 e3 e4 w hm h2 h3 (by omega) (by omega) hn2
    rw [cntP_F ws _ a2 a3 n (by omega) (by omega) (fun t ht => by
      rw [decide_eq_true_eq]
      unfold partOf
      omega) n (Nat.le_refl _), show min n a3 - a2 = a3 - a2 by omega]
    exact used_some p h n a2 a3 3 e0 e1 e2 e3 e4 ws w hm hw hn (by omega) (by omega) hn2 hu hc
  · have hc := words_4 p h n a3 n e0 e1 e2 e3 e4 w hm h3 h4 (by omega) (by omega) hn2
    rw [cntP_F ws _ a3 n n (by omega) (by omega) (fun t ht => by
      rw [decide_eq_true_eq]
      unfold partOf
      omega) n (Nat.le_refl _), show min n n - a3 = n - a3 by omega]
    exact used_some p h n a3 n 4 e0 e1 e2 e3 e4 ws w hm hw hn (by omega) (by omega) hn2 hu hc
  · rw [cntP_none ws _ n n (Nat.le_refl _) (fun t ht => by
      rw [decide_eq_false_iff_not]
      unfold partOf
      omega)]
    exact used_none p k w h5 k1
end Go.Proofs.Ytojjfpplhgfpfaa
