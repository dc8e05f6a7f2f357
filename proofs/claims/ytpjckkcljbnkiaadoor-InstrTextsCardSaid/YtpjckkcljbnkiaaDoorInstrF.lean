/- The laws of package instr: what they share. -/
import Derived.Test.YtpjckkcljbnkiaaDoorInstrE
namespace Go.Proofs.YtpjckkcljbnkiaaDoor
open Go.ChangeShapes Go.WideShapes Go.ChangeAt Go.RowKit
set_option linter.unusedVariables false

theorem list_five {α : Type} {l : List α} (h : l.length = 5) : ∃ a b c d e, l = [a, b, c, d, e] := by
  match l, h with
  | [a, b, c, d, e], _ => exact ⟨a, b, c, d, e, rfl⟩
theorem i64_of_wf {n : Int} (h : (Lit.int .i64 n).wf = true) : I64 n := by
  exact bounds_i64 h

set_option maxHeartbeats 1000000 in
theorem awake02_any (w : World) (hS : ShapesIn w) :
    Calls Tryd.prog 4 #[] w fun e w' => e = .returned (.bool true) ∧ Below w.heap.size w w' := by
  have HS := Lib.hid hS
  have R1 : encR 5 1 2 0 (-1) = .tuple #[.int .u32 85131263, .int .i64 0] := by unfold encR; rw [show encOf 5 1 2 0 (-1) = 85131263 by decide +kernel, show checkOf 5 1 2 0 (-1) = 0 by decide +kernel]
  have R2 : encR 26 3 1 0 10 = .tuple #[.int .u32 439418890, .int .i64 0] := by unfold encR; rw [show encOf 26 3 1 0 10 = 439418890 by decide +kernel, show checkOf 26 3 1 0 10 = 0 by decide +kernel]
  have E1 := Lib.hid (fun w h => encode_any 5 1 2 0 (-1) w h (by unfold I64; omega) (by unfold I64; omega) (by unfold I64; omega) (by unfold I64; omega))
  have E2 := Lib.hid (fun w h => encode_any 26 3 1 0 10 w h (by unfold I64; omega) (by unfold I64; omega) (by unfold I64; omega) (by unfold I64; omega))
  rw [R1] at E1
  rw [R2] at E2
  unfold instrV at E1 E2
  clear R1 R2 hS
  go_enter Tryd.func4, Tryd.ntmps4
  go_wp2_with fail
  refine (E1.out _ HS.out).mono ?_
  rintro e w1 ⟨rfl, hb1⟩
  go_wp2_with fail
  refine (E2.out _ (HS.out.below hb1 (Nat.le_refl _))).mono ?_
  rintro e w2 ⟨rfl, hb2⟩
  have hb := hb1.trans (hb2.mono hb1.size)
  clear hb1 hb2
  go_wp2
  go_ret
  exact ⟨rfl, hb⟩

set_option maxHeartbeats 1000000 in
theorem ref_any (op a b c n : Int) (w : World) :
    Calls Tryd.prog 7 #[instrV op a b c n] w fun e w' => e = .returned (instrV op a b c n) ∧ Below w.heap.size w w' := by
  unfold instrV
  go_enter Tryd.func7, Tryd.ntmps7
  go_wp2
  refine bodyPost_ret (v := .agg #[.int .i64 op, .int .i64 a, .int .i64 b, .int .i64 c, .int .i64 n]) (by simp [results, Tryd.results7, go_sem]) rfl ⟨rfl, ?_⟩
  repeat (first | exact ((Below.refl _ _).alloc (Nat.le_refl _) _).alloc (by simp) _ | refine Below.setCell ?_ (by simp) _)
end Go.Proofs.YtpjckkcljbnkiaaDoor
