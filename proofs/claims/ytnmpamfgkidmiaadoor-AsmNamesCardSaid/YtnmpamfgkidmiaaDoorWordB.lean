/- Contracts of package word's texts: Hex. -/
import Derived.Test.YtnmpamfgkidmiaaDoorWordA
import Derived.Laws.BytesArg
namespace Go.Proofs.YtnmpamfgkidmiaaDoor
open Go.ChangeShapes Go.WideShapes Go.ChangeAt Go.RowKit
set_option linter.unusedVariables false


/-- The eight digits of a word. -/
def hexNums (n : Int) : List Int := [hexdg (n / 268435456 % 16), hexdg (n / 16777216 % 16), hexdg (n / 1048576 % 16), hexdg (n / 65536 % 16), hexdg (n / 4096 % 16), hexdg (n / 256 % 16), hexdg (n / 16 % 16), hexdg (n % 16)]

set_option maxHeartbeats 1000000 in
set_option maxRecDepth 100000 in
theorem hex_any (n : Int) (w : World) (h0 : 0 ≤ n) (h1 : n ≤ 4294967295) :
    Calls Tryd.prog 57 #[.int .u32 n] w fun e w' => e = .returned (.string (strOfNums (hexNums n))) ∧ Below w.heap.size w w' := by
  have ha := and15_u32
  have hi : ∀ (m : Int) (w : World), (Instr.index 9 (.string ⟨#[48, 49, 50, 51, 52, 53, 54, 55, 56, 57, 97, 98, 99, 100, 101, 102]⟩) (.int .u32 (m % 16))).run Tryd.prog w = .ok (.int .u8 (hexdg (m % 16))) w :=
    fun m w => index_digit 9 .u32 Tryd.underlying9 (m % 16) (by omega) (by omega) w
  go_enter Tryd.func57, Tryd.ntmps57
  go_wp2_with fail
  refine wp_loop_rounds 9 ?_
  iterate 9 (rw [rounds_succ]; go_wp2_with fail)
  rw [run_convert_bytes_arg _ 43 5 Tryd.underlying43 Tryd.underlying5 w.heap.size 0 8 8 (hexNums n) rfl (fun i hi => by
    have : i = 0 ∨ i = 1 ∨ i = 2 ∨ i = 3 ∨ i = 4 ∨ i = 5 ∨ i = 6 ∨ i = 7 := by omega
    rcases this with rfl | rfl | rfl | rfl | rfl | rfl | rfl | rfl <;> simp [go_sem, hexNums]) 9 Tryd.underlying9]
  go_wp2
  go_ret
  exact ⟨rfl, (Below.refl _ _).alloc (Nat.le_refl _) _⟩

end Go.Proofs.YtnmpamfgkidmiaaDoor