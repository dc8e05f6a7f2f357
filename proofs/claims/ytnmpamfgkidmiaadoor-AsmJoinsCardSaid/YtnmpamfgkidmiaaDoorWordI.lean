/- Contracts of the answers' Hex, and what package word reads of its own texts. -/
import Derived.Test.YtnmpamfgkidmiaaDoorWordG
namespace Go.Proofs.YtnmpamfgkidmiaaDoor
open Go.ChangeShapes Go.WideShapes Go.ChangeAt Go.RowKit
set_option linter.unusedVariables false

theorem extract_digit (m : Int) (h0 : 0 ≤ m) (h1 : m < 16) : digits16.extract m.toNat (m + 1).toNat = strOfNums [hexdg m] := by
  have : m = 0 ∨ m = 1 ∨ m = 2 ∨ m = 3 ∨ m = 4 ∨ m = 5 ∨ m = 6 ∨ m = 7 ∨ m = 8 ∨ m = 9 ∨ m = 10 ∨ m = 11 ∨ m = 12 ∨ m = 13 ∨ m = 14 ∨ m = 15 := by omega
  rcases this with rfl | rfl | rfl | rfl | rfl | rfl | rfl | rfl | rfl | rfl | rfl | rfl | rfl | rfl | rfl | rfl <;> decide +kernel

theorem slice_digit {P : Program} (t : TypeId) (k : IntKind) (h : P.underlying t = some .string) (m : Int) (h0 : 0 ≤ m) (h1 : m < 16) (W : World) :
    (Instr.sliceAt t (.string digits16) (some (.int k m)) (some (.int k (m + 1))) none).run P W = .ok (.string (strOfNums [hexdg m])) W := by
  rw [run_sliceAt_string W t _ _ _ _ h, run_slice_string W t digits16 k k m (m + 1) h h0 (by omega) (by show _ ≤ (16 : Int); omega), extract_digit m h0 h1]

set_option maxHeartbeats 2000000 in
set_option maxRecDepth 100000 in
theorem refhex_any (n : Int) (w : World) (h0 : 0 ≤ n) (h1 : n ≤ 4294967295) :
    Calls Tryd.prog 33 #[.int .u32 n] w fun e w' => e = .returned (.string (strOfNums (hexNums n))) ∧ w = w' := by
  have hi : ∀ (m : Int) (W : World), (Instr.sliceAt 9 (.string ⟨#[48, 49, 50, 51, 52, 53, 54, 55, 56, 57, 97, 98, 99, 100, 101, 102]⟩) (some (.int .u32 (m % 16))) (some (.int .u32 (m % 16 + 1))) none).run Tryd.prog W = .ok (.string (strOfNums [hexdg (m % 16)])) W :=
    fun m W => slice_digit 9 .u32 Tryd.underlying9 (m % 16) (by omega) (by omega) W
  have hsz := strOfNums_size
  go_enter Tryd.func33, Tryd.ntmps33
  go_wp2
  refine wp_loop_rounds 9 ?_
  iterate 9 (rw [rounds_succ]; go_wp2)
  go_ret
  refine ⟨ret_val (congrArg Value.string ?_), rfl⟩
  rw [show (⟨#[]⟩ : ByteArray) = strOfNums [] from rfl]
  simp only [str_app]
  unfold hexNums
  rw [show n / 16 / 16 = n / 256 by omega, show n / 256 / 16 = n / 4096 by omega, show n / 4096 / 16 = n / 65536 by omega, show n / 65536 / 16 = n / 1048576 by omega, show n / 1048576 / 16 = n / 16777216 by omega, show n / 16777216 / 16 = n / 268435456 by omega]
  rfl

/-! ### What a text of package word reads as -/
theorem bys_nums (a : List Int) (ha : ∀ c ∈ a, 0 ≤ c ∧ c ≤ 255) : bys (strOfNums a) = a := by
  have h := str_same a (strOfNums a) ha
  rw [beq_self_eq_true] at h
  exact (of_decide_eq_true h.symm).symm

theorem hexval_dg (d : Int) (h0 : 0 ≤ d) (h1 : d < 16) : hexval (hexdg d) = d := by
  unfold hexval hexdg
  split <;> split <;> (try split) <;> omega

theorem hexAll_hex (n : Int) : hexAll (hexNums n) = true := by
  unfold hexNums hexAll
  simp only [List.all_cons, List.all_nil, Bool.and_true]
  rw [hexval_dg _ (by omega) (by omega), hexval_dg _ (by omega) (by omega), hexval_dg _ (by omega) (by omega), hexval_dg _ (by omega) (by omega), hexval_dg _ (by omega) (by omega), hexval_dg _ (by omega) (by omega), hexval_dg _ (by omega) (by omega), hexval_dg _ (by omega) (by omega)]
  simp only [Bool.and_eq_true, decide_eq_true_eq]
  omega

theorem hexSum_hex (n : Int) (h0 : 0 ≤ n) (h1 : n ≤ 4294967295) : hexSum (hexNums n) = n := by
  unfold hexNums hexSum
  simp only [List.foldl_cons, List.foldl_nil]
  rw [hexval_dg _ (by omega) (by omega), hexval_dg _ (by omega) (by omega), hexval_dg _ (by omega) (by omega), hexval_dg _ (by omega) (by omega), hexval_dg _ (by omega) (by omega), hexval_dg _ (by omega) (by omega), hexval_dg _ (by omega) (by omega), hexval_dg _ (by omega) (by omega)]
  omega

theorem hexNums_byte (n : Int) : ∀ c ∈ hexNums n, 0 ≤ c ∧ c ≤ 255 := by
  intro c hc
  have h : ∀ m : Int, 0 ≤ hexdg (m % 16) ∧ hexdg (m % 16) ≤ 255 := fun m => ⟨hexdg_ge _ (by omega), hexdg_le _ (by omega)⟩
  unfold hexNums at hc
  simp only [List.mem_cons, List.not_mem_nil, or_false] at hc
  rcases hc with rfl | rfl | rfl | rfl | rfl | rfl | rfl | rfl <;> exact h _

theorem hexRes_hex (n : Int) (h0 : 0 ≤ n) (h1 : n ≤ 4294967295) : hexRes (bys (strOfNums (hexNums n))) = .tuple #[.int .u32 n, .bool true] := by
  rw [bys_nums _ (hexNums_byte n), hexRes_yes (hexAll_hex n), hexSum_hex n h0 h1]

theorem parseRes_in (n : Int) (h0 : -2147483648 ≤ n) (h1 : n ≤ 2147483647) : parseRes (bys (strOfNums (textNums n))) = .tuple #[.int .i32 n, .bool true] := by
  have hp := parseOf_text n (by omega) (by omega)
  rw [bys_nums _ (textNums_byte n), parseRes_yes (yes_text (digAll_text n) (by omega) (by omega) (by rw [hp])), hp]

theorem parseRes_out (n : Int) (h2 : -9223372036854775808 ≤ n) (h3 : n ≤ 9223372036854775807) (h : n < -2147483648 ∨ 2147483647 < n) : parseRes (bys (strOfNums (textNums n))) = .tuple #[.int .i32 0, .bool false] := by
  have hp := parseOf_text n h2 h3
  rw [bys_nums _ (textNums_byte n), parseRes_no (no_range (by omega))]
end Go.Proofs.YtnmpamfgkidmiaaDoor
