/- Scan: which words are keys: the answers' and the program's. -/
import Derived.Test.YtbkagnhficmdhaaDoorScnB
import Derived.Lib.Strings
namespace Go.Proofs.YtbkagnhficmdhaaDoor
open Go.ChangeShapes Go.WideShapes Go.ChangeAt Go.RowKit
set_option linter.unusedVariables false
set_option linter.unusedSimpArgs false

theorem keyRow_len : keyRow.length = 36 := rfl

set_option maxHeartbeats 4000000 in
set_option maxRecDepth 100000 in
theorem refkeys_any (w : World) : Calls Tryd.prog 36 #[] w fun e w' => e = .returned (.slice (some ⟨w.heap.size, 0, none⟩) 36 36) ∧ w' = w.alloc (.cells (keyRow.map Value.string).toArray 9) := by
  go_enter Tryd.func36, Tryd.ntmps36
  go_wp2_with fail
  go_ret
  exact ⟨rfl, rfl⟩

theorem keyB_hit {s : ByteArray} {k : Nat} (hk : k < 36) (h : ((keyRow.getD k ⟨#[]⟩).toList == s.toList) = true) : keyB s = true := by
  unfold keyB
  rw [List.any_eq_true]
  have hl : k < keyRow.length := by rw [keyRow_len]; exact hk
  refine ⟨keyRow.getD k ⟨#[]⟩, ?_, h⟩
  rw [List.getD_eq_getElem?_getD, List.getElem?_eq_getElem hl]
  exact List.getElem_mem _

theorem keyB_miss {s : ByteArray} (h : ∀ k, k < 36 → ((keyRow.getD k ⟨#[]⟩).toList == s.toList) = false) : keyB s = false := by
  unfold keyB
  rw [List.any_eq_false]
  intro x hx
  obtain ⟨k, hk, rfl⟩ := List.getElem_of_mem hx
  have := h k (by rw [← keyRow_len]; exact hk)
  rw [List.getD_eq_getElem?_getD, List.getElem?_eq_getElem hk] at this
  simpa using this

set_option maxHeartbeats 4000000 in
set_option maxRecDepth 100000 in
theorem refkey_any (s : ByteArray) (w : World) : Calls Tryd.prog 16 #[.string s] w fun e w' => e = .returned (.bool (keyB s)) ∧ Below w.heap.size w w' := by
  have C := Lib.hid (fun k (hk : k < 36) (W : World) (hW : W = w.alloc (.cells (keyRow.map Value.string).toArray 9)) => show W.cell? ⟨w.heap.size, k, none⟩ = some (.string (keyRow.getD k ⟨#[]⟩)) from by
    subst hW
    rw [Whole.cell (Whole.made w 9 (keyRow.map Value.string).toArray _ rfl)]
    have hl : k < keyRow.length := by rw [keyRow_len]; exact hk
    simp [hl])
  have B := Lib.hid ((Below.refl w.heap.size w).alloc (Nat.le_refl _) (.cells (keyRow.map Value.string).toArray 9))
  have KH := Lib.hid (fun k => @keyB_hit s k)
  have KM := Lib.hid (@keyB_miss s)
  have KC := Lib.hid (refkeys_any w)
  generalize keyB s = b at *
  go_enter Tryd.func16, Tryd.ntmps16
  go_wp2_with fail
  refine KC.out.mono ?_
  rintro e w1 ⟨rfl, rfl⟩
  clear KC
  have C' := Lib.hid (fun k hk => C.out k hk _ rfl)
  clear C
  generalize w.alloc (.cells (keyRow.map Value.string).toArray 9) = W at *
  go_wp2_with fail
  go_loop [4] (fun i => ∃ k : Nat, k ≤ 36 ∧ i = .int .i64 k ∧ ∀ j, j < k → ((keyRow.getD j ⟨#[]⟩).toList == s.toList) = false) (fun i => 36 - (intOf i).toNat)
  case atStart => exact ⟨0, Nat.zero_le _, rfl, fun j h => absurd h (Nat.not_lt_zero _)⟩
  case round =>
    obtain ⟨k, hk, rfl, hA⟩ := hrel
    have HA := Lib.hid hA
    clear hA
    by_cases hlt : k < 36
    · have hI : (k : Int) < 36 := by omega
      have x0 := C'.out k hlt
      have KH' := Lib.hid (KH.out k hlt)
      have SA := Lib.hid (fun (h : ((keyRow.getD k ⟨#[]⟩).toList == s.toList) = false) j (hj : j < k + 1) => (Nat.lt_or_ge j k).elim (HA.out j) (fun h' => by rw [show j = k by omega]; exact h))
      generalize keyRow.getD k ⟨#[]⟩ = x at *
      cases hx : (x.toList == s.toList)
      · have S2 := Lib.hid (SA.out hx)
        go_wp2_with fail
        go_round
        case rel => exact ⟨k + 1, by omega, by go_num, S2.out⟩
        case measure => simp [intOf]; omega
      · have S2 := Lib.hid (KH'.out hx)
        go_wp2_with fail
        go_ret
        exact ⟨by rw [S2.out]; rfl, B.out⟩
    · have hI : decide ((k : Int) < 36) = false := decide_eq_false (by omega)
      have hk6 : k = 36 := by omega
      have S2 := Lib.hid (KM.out (fun j hj => HA.out j (by omega)))
      go_wp2_with fail
      go_ret
      exact ⟨by rw [S2.out]; rfl, B.out⟩

def keyLits : List (List UInt8) := [[65, 78, 68], [65, 82, 82, 65, 89], [66, 69, 71, 73, 78], [67, 79, 78, 83, 84], [68, 73, 86], [68, 79], [69, 76, 83, 69], [69, 76, 83, 73, 70], [69, 78, 68], [69, 88, 67, 69, 80, 84], [69, 88, 67, 69, 80, 84, 73, 79, 78], [70, 65, 76, 83, 69], [70, 73, 78, 65, 76, 76, 89], [73, 70], [73, 77, 80, 79, 82, 84], [77, 79, 68], [77, 79, 68, 85, 76, 69], [78, 69, 87], [78, 73, 76], [78, 79, 84], [79, 70], [79, 82], [80, 82, 79, 67, 69, 68, 85, 82, 69], [82, 65, 73, 83, 69], [82, 69, 65, 68], [82, 69, 67, 79, 82, 68], [82, 69, 80, 69, 65, 84], [82, 69, 84, 85, 82, 78], [84, 72, 69, 78], [84, 82, 85, 69], [84, 82, 89], [84, 89, 80, 69], [85, 78, 84, 73, 76], [86, 65, 82], [87, 72, 73, 76, 69], [87, 82, 73, 84, 69]]

theorem keyB_lits (s : ByteArray) : keyB s = keyLits.any (fun l => s.toList == l) := by
  unfold keyB
  rw [show keyLits = keyRow.map (fun x => x.data.toList) from rfl, List.any_map]
  congr 1
  funext x
  simp only [Function.comp, Lib.toList_data]
  exact Bool.eq_iff_iff.2 (by simp only [beq_iff_eq]; exact eq_comm)

theorem keyB_in {s : ByteArray} (l : List UInt8) (hl : l ∈ keyLits) (h : (s.toList == l) = true) : keyB s = true := by
  rw [keyB_lits, List.any_eq_true]
  exact ⟨l, hl, h⟩

set_option maxHeartbeats 8000000 in
set_option maxRecDepth 100000 in
theorem iskey_any (s : ByteArray) (w : World) : Calls Tryd.prog 15 #[.string s] w fun e w' => e = .returned (.bool (keyB s)) ∧ w = w' := by
  have KI := Lib.hid (fun l hl h => @keyB_in s l hl h)
  have K := Lib.hid (keyB_lits s)
  generalize keyB s = b at *
  go_enter Tryd.func15, Tryd.ntmps15
  go_wp2_with fail
  all_goals (go_ret; refine ⟨?_, rfl⟩)
  all_goals rename_i x y
  all_goals (first
    | exact absurd (x.symm.trans y) (by decide)
    | (rw [KI.out _ (by decide) y]; rfl)
    | (rw [K.out]; simp only [keyLits, List.any_cons, List.any_nil, *]; rfl))
end Go.Proofs.YtbkagnhficmdhaaDoor
