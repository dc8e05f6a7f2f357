/- Contracts of package word's texts: Hex. -/
import Derived.Test.YtiapjdfbnfnnmaaWordA
import Derived.Laws.BytesArg
namespace Go.Proofs.Ytiapjdfbnfnnmaa
open Go.ChangeShapes Go.WideShapes Go.ChangeAt Go.RowKit
set_option linter.unusedVariables false


/-- The eight digits of a word. -/
def hexNums (n : Int) : List Int := [hexdg (n / 268435456 % 16), hexdg (n / 16777216 % 16), hexdg (n / 1048576 % 16), hexdg (n / 65536 % 16), hexdg (n / 4096 % 16), hexdg (n / 256 % 16), hexdg (n / 16 % 16), hexdg (n % 16)]

set_option maxHeartbeats 1000000 in
theorem hex_any (n : Int) (w : World) (h0 : 0 ≤ n) (h1 : n ≤ 4294967295) :
    Calls Try.prog 31 #[.int .u32 n] w fun e w' => e = .returned (.string (strOfNums (hexNums n))) ∧ Below w.heap.size w w' := by
  have ha := and15_u32
  have hi : ∀ (m : Int) (w : World), (Instr.index 9 (.string ⟨#[48, 49, 50, 51, 52, 53, 54, 55, 56, 57, 97, 98, 99, 100, 101, 102]⟩) (.int .u32 (m % 16))).run Try.prog w = .ok (.int .u8 (hexdg (m % 16))) w :=
    fun m w => index_digit 9 .u32 Try.underlying9 (m % 16) (by omega) (by omega) w
  go_enter Try.func31, Try.ntmps31
  go_wp2_with fail
  refine wp_loop_rounds 9 ?_
  iterate 9 (rw [rounds_succ]; go_wp2_with fail)
  rw [run_convert_bytes_arg _ 35 5 Try.underlying35 Try.underlying5 w.heap.size 0 8 8 (hexNums n) rfl (fun i hi => by
    have : i = 0 ∨ i = 1 ∨ i = 2 ∨ i = 3 ∨ i = 4 ∨ i = 5 ∨ i = 6 ∨ i = 7 := by omega
    rcases this with rfl | rfl | rfl | rfl | rfl | rfl | rfl | rfl <;> simp [go_sem, hexNums]) 9 Try.underlying9]
  go_wp2
  go_ret
  exact ⟨rfl, (Below.refl _ _).alloc (Nat.le_refl _) _⟩

set_option maxHeartbeats 1000000 in
theorem awake_any (w : World) :
    Calls Try.prog 9 #[] w fun e w' => e = .returned (.bool true) ∧ Below w.heap.size w w' := by
  have hd : dv (-7) 2 = -4 := by decide +kernel
  have hm : md (-7) 2 = 1 := by decide +kernel
  have hh : strOfNums (hexNums 255) = ⟨#[48, 48, 48, 48, 48, 48, 102, 102]⟩ := by decide
  go_enter Try.func9, Try.ntmps9
  go_wp2_with (go_at_call 15; refine (div_any (-7) 2 _ (by omega) (by omega) (by omega)).mono ?_; rintro e w' ⟨rfl, rfl⟩)
  refine (mod_any (-7) 2 _ (by omega) (by omega) (by omega)).mono ?_
  rintro e w1 ⟨rfl, hb1⟩
  go_wp2_with fail
  refine (hex_any 255 _ (by omega) (by omega)).mono ?_
  rintro e w2 ⟨rfl, hb2⟩
  go_wp2
  go_ret
  exact ⟨rfl, hb1.trans (hb2.mono hb1.size)⟩
end Go.Proofs.Ytiapjdfbnfnnmaa
