/- Package instr and its answers: the fields of a shape; whether a number may be; the mask. -/
import Derived.Test.YtcijjmmckofckaaDoorInstrA
namespace Go.Proofs.YtcijjmmckofckaaDoor
open Go.ChangeShapes Go.WideShapes Go.ChangeAt Go.RowKit
set_option linter.unusedVariables false

/-- What the table of shapes holds. -/
def shapesCells : List Value := [.int .i64 0, .int .i64 0, .bool false, .int .i64 1, .int .i64 16, .bool true, .int .i64 1, .int .i64 16, .bool false, .int .i64 2, .int .i64 16, .bool true, .int .i64 2, .int .i64 16, .bool false, .int .i64 3, .int .i64 0, .bool false, .int .i64 1, .int .i64 0, .bool false, .int .i64 0, .int .i64 24, .bool true, .int .i64 0, .int .i64 16, .bool false]
def ShapesIn (w : World) : Prop := ∀ i, w.cell? ⟨0, i, none⟩ = shapesCells[i]?
theorem ShapesIn.lt {w : World} (h : ShapesIn w) : 0 < w.heap.size := block_lt (h 0)
theorem ShapesIn.below {w w' : World} {B : Nat} (h : ShapesIn w) (hb : Below B w w') (hB : w.heap.size ≤ B) : ShapesIn w' := fun i => by
  rw [hb.cell (p := ⟨0, i, none⟩) (Nat.lt_of_lt_of_le h.lt hB)]
  exact h i
theorem ShapesIn.alloc {w : World} (h : ShapesIn w) (o : Obj) : ShapesIn (w.alloc o) := h.below ((Below.refl w.heap.size _).alloc (Nat.le_refl _) _) (Nat.le_refl _)
theorem shapes_of_laid {w : World} {l : List (String × DataW Unit)} (hL : laidMetH Tryd.prog l w) (hp : (l.all fun x => x.2.handleName?.isNone) = true) (hm : ("pascaline/instr.shapes", Rows.laid_pascaline_instr_shapes) ∈ l) : ShapesIn w :=
  fun i => known_of_laid (n := 8) hL hp hm (by kernel_rfl) (t := 112) (by kernel_rfl) (by kernel_rfl) i

/-- The fields of a shape, as a value. -/
def fieldsV (s : Int) : Value := .agg #[.int .i64 (regsOf s), .int .i64 (bitsOf s), .bool (signOf s)]
def fieldsR (op : Int) : Value := .tuple #[fieldsV (shapeOf op), .bool (decide (shapeOf op ≠ -1))]
theorem fieldsR_of {op s : Int} (h : shapeOf op = s) : fieldsR op = .tuple #[fieldsV s, .bool (decide (s ≠ -1))] := by unfold fieldsR; rw [h]

set_option maxHeartbeats 1000000 in
theorem fieldsOf_any (op : Int) (w : World) (hS : ShapesIn w) :
    Calls Tryd.prog 69 #[.int .i64 op] w fun e w' => e = .returned (fieldsR op) ∧ Below w.heap.size w w' := by
  have hlt := hS.lt
  rcases shape_cases op with h | h | h | h | h | h | h | h | h | h
  · rw [fieldsR_of h]
    have H := Lib.hid h
    clear h hS
    go_enter Tryd.func69, Tryd.ntmps69
    go_wp2_with fail
    refine (shape_any _ _).mono ?_
    rintro e w' ⟨rfl, rfl⟩
    rw [H.out]
    go_wp2
    refine bodyPost_ret (v := .tuple #[.agg #[.int .i64 0, .int .i64 0, .bool false], .bool false]) (by simp [results, Tryd.results69, go_sem]) rfl ⟨rfl, ?_⟩
    repeat (first | exact (Below.refl _ _).alloc (Nat.le_refl _) _ | refine Below.setCell ?_ (Nat.le_refl _) _)
  · rw [fieldsR_of h]
    have k0 : w.cell? ⟨0, 0, none⟩ = some (.int .i64 0) := hS 0
    have k1 : w.cell? ⟨0, 1, none⟩ = some (.int .i64 0) := hS 1
    have k2 : w.cell? ⟨0, 2, none⟩ = some (.bool false) := hS 2
    have H := Lib.hid h
    clear h hS
    go_enter Tryd.func69, Tryd.ntmps69
    go_wp2_with fail
    refine (shape_any _ _).mono ?_
    rintro e w' ⟨rfl, rfl⟩
    rw [H.out]
    go_wp2
    refine bodyPost_ret (v := .tuple #[.agg #[.int .i64 0, .int .i64 0, .bool false], .bool true]) (by simp [results, Tryd.results69, go_sem]) rfl ⟨rfl, ?_⟩
    repeat (first | exact (Below.refl _ _).alloc (Nat.le_refl _) _ | refine Below.setCell ?_ (Nat.le_refl _) _)
  · rw [fieldsR_of h]
    have k0 : w.cell? ⟨0, 3, none⟩ = some (.int .i64 1) := hS 3
    have k1 : w.cell? ⟨0, 4, none⟩ = some (.int .i64 16) := hS 4
    have k2 : w.cell? ⟨0, 5, none⟩ = some (.bool true) := hS 5
    have H := Lib.hid h
    clear h hS
    go_enter Tryd.func69, Tryd.ntmps69
    go_wp2_with fail
    refine (shape_any _ _).mono ?_
    rintro e w' ⟨rfl, rfl⟩
    rw [H.out]
    go_wp2
    refine bodyPost_ret (v := .tuple #[.agg #[.int .i64 1, .int .i64 16, .bool true], .bool true]) (by simp [results, Tryd.results69, go_sem]) rfl ⟨rfl, ?_⟩
    repeat (first | exact (Below.refl _ _).alloc (Nat.le_refl _) _ | refine Below.setCell ?_ (Nat.le_refl _) _)
  · rw [fieldsR_of h]
    have k0 : w.cell? ⟨0, 6, none⟩ = some (.int .i64 1) := hS 6
    have k1 : w.cell? ⟨0, 7, none⟩ = some (.int .i64 16) := hS 7
    have k2 : w.cell? ⟨0, 8, none⟩ = some (.bool false) := hS 8
    have H := Lib.hid h
    clear h hS
    go_enter Tryd.func69, Tryd.ntmps69
    go_wp2_with fail
    refine (shape_any _ _).mono ?_
    rintro e w' ⟨rfl, rfl⟩
    rw [H.out]
    go_wp2
    refine bodyPost_ret (v := .tuple #[.agg #[.int .i64 1, .int .i64 16, .bool false], .bool true]) (by simp [results, Tryd.results69, go_sem]) rfl ⟨rfl, ?_⟩
    repeat (first | exact (Below.refl _ _).alloc (Nat.le_refl _) _ | refine Below.setCell ?_ (Nat.le_refl _) _)
  · rw [fieldsR_of h]
    have k0 : w.cell? ⟨0, 9, none⟩ = some (.int .i64 2) := hS 9
    have k1 : w.cell? ⟨0, 10, none⟩ = some (.int .i64 16) := hS 10
    have k2 : w.cell? ⟨0, 11, none⟩ = some (.bool true) := hS 11
    have H := Lib.hid h
    clear h hS
    go_enter Tryd.func69, Tryd.ntmps69
    go_wp2_with fail
    refine (shape_any _ _).mono ?_
    rintro e w' ⟨rfl, rfl⟩
    rw [H.out]
    go_wp2
    refine bodyPost_ret (v := .tuple #[.agg #[.int .i64 2, .int .i64 16, .bool true], .bool true]) (by simp [results, Tryd.results69, go_sem]) rfl ⟨rfl, ?_⟩
    repeat (first | exact (Below.refl _ _).alloc (Nat.le_refl _) _ | refine Below.setCell ?_ (Nat.le_refl _) _)
  · rw [fieldsR_of h]
    have k0 : w.cell? ⟨0, 12, none⟩ = some (.int .i64 2) := hS 12
    have k1 : w.cell? ⟨0, 13, none⟩ = some (.int .i64 16) := hS 13
    have k2 : w.cell? ⟨0, 14, none⟩ = some (.bool false) := hS 14
    have H := Lib.hid h
    clear h hS
    go_enter Tryd.func69, Tryd.ntmps69
    go_wp2_with fail
    refine (shape_any _ _).mono ?_
    rintro e w' ⟨rfl, rfl⟩
    rw [H.out]
    go_wp2
    refine bodyPost_ret (v := .tuple #[.agg #[.int .i64 2, .int .i64 16, .bool false], .bool true]) (by simp [results, Tryd.results69, go_sem]) rfl ⟨rfl, ?_⟩
    repeat (first | exact (Below.refl _ _).alloc (Nat.le_refl _) _ | refine Below.setCell ?_ (Nat.le_refl _) _)
  · rw [fieldsR_of h]
    have k0 : w.cell? ⟨0, 15, none⟩ = some (.int .i64 3) := hS 15
    have k1 : w.cell? ⟨0, 16, none⟩ = some (.int .i64 0) := hS 16
    have k2 : w.cell? ⟨0, 17, none⟩ = some (.bool false) := hS 17
    have H := Lib.hid h
    clear h hS
    go_enter Tryd.func69, Tryd.ntmps69
    go_wp2_with fail
    refine (shape_any _ _).mono ?_
    rintro e w' ⟨rfl, rfl⟩
    rw [H.out]
    go_wp2
    refine bodyPost_ret (v := .tuple #[.agg #[.int .i64 3, .int .i64 0, .bool false], .bool true]) (by simp [results, Tryd.results69, go_sem]) rfl ⟨rfl, ?_⟩
    repeat (first | exact (Below.refl _ _).alloc (Nat.le_refl _) _ | refine Below.setCell ?_ (Nat.le_refl _) _)
  · rw [fieldsR_of h]
    have k0 : w.cell? ⟨0, 18, none⟩ = some (.int .i64 1) := hS 18
    have k1 : w.cell? ⟨0, 19, none⟩ = some (.int .i64 0) := hS 19
    have k2 : w.cell? ⟨0, 20, none⟩ = some (.bool false) := hS 20
    have H := Lib.hid h
    clear h hS
    go_enter Tryd.func69, Tryd.ntmps69
    go_wp2_with fail
    refine (shape_any _ _).mono ?_
    rintro e w' ⟨rfl, rfl⟩
    rw [H.out]
    go_wp2
    refine bodyPost_ret (v := .tuple #[.agg #[.int .i64 1, .int .i64 0, .bool false], .bool true]) (by simp [results, Tryd.results69, go_sem]) rfl ⟨rfl, ?_⟩
    repeat (first | exact (Below.refl _ _).alloc (Nat.le_refl _) _ | refine Below.setCell ?_ (Nat.le_refl _) _)
  · rw [fieldsR_of h]
    have k0 : w.cell? ⟨0, 21, none⟩ = some (.int .i64 0) := hS 21
    have k1 : w.cell? ⟨0, 22, none⟩ = some (.int .i64 24) := hS 22
    have k2 : w.cell? ⟨0, 23, none⟩ = some (.bool true) := hS 23
    have H := Lib.hid h
    clear h hS
    go_enter Tryd.func69, Tryd.ntmps69
    go_wp2_with fail
    refine (shape_any _ _).mono ?_
    rintro e w' ⟨rfl, rfl⟩
    rw [H.out]
    go_wp2
    refine bodyPost_ret (v := .tuple #[.agg #[.int .i64 0, .int .i64 24, .bool true], .bool true]) (by simp [results, Tryd.results69, go_sem]) rfl ⟨rfl, ?_⟩
    repeat (first | exact (Below.refl _ _).alloc (Nat.le_refl _) _ | refine Below.setCell ?_ (Nat.le_refl _) _)
  · rw [fieldsR_of h]
    have k0 : w.cell? ⟨0, 24, none⟩ = some (.int .i64 0) := hS 24
    have k1 : w.cell? ⟨0, 25, none⟩ = some (.int .i64 16) := hS 25
    have k2 : w.cell? ⟨0, 26, none⟩ = some (.bool false) := hS 26
    have H := Lib.hid h
    clear h hS
    go_enter Tryd.func69, Tryd.ntmps69
    go_wp2_with fail
    refine (shape_any _ _).mono ?_
    rintro e w' ⟨rfl, rfl⟩
    rw [H.out]
    go_wp2
    refine bodyPost_ret (v := .tuple #[.agg #[.int .i64 0, .int .i64 16, .bool false], .bool true]) (by simp [results, Tryd.results69, go_sem]) rfl ⟨rfl, ?_⟩
    repeat (first | exact (Below.refl _ _).alloc (Nat.le_refl _) _ | refine Below.setCell ?_ (Nat.le_refl _) _)

set_option maxHeartbeats 1000000 in
theorem has_any (s : Int) (w : World) :
    Calls Tryd.prog 36 #[.int .i64 s] w fun e w' => e = .returned (.tuple #[.bool (decide (1 ≤ s) && decide (s ≤ 6)), .bool (decide (3 ≤ s) && decide (s ≤ 5)), .bool (s == 5)]) ∧ w = w' := by
  by_cases h1 : 1 ≤ s
  · have e1 : decide (1 ≤ s) = true := by simpa using h1
    by_cases h3 : 3 ≤ s
    · have e3 : decide (3 ≤ s) = true := by simpa using h3
      go_enter Tryd.func36, Tryd.ntmps36
      go_wp2
      exact bodyPost_ret (by simp [results, Tryd.results36, go_sem] <;> omega) rfl ⟨rfl, rfl⟩
    · have e3 : decide (3 ≤ s) = false := by simpa using h3
      go_enter Tryd.func36, Tryd.ntmps36
      go_wp2
      exact bodyPost_ret (by simp [results, Tryd.results36, go_sem] <;> omega) rfl ⟨rfl, rfl⟩
  · have e1 : decide (1 ≤ s) = false := by simpa using h1
    have e3 : decide (3 ≤ s) = false := by simp; omega
    go_enter Tryd.func36, Tryd.ntmps36
    go_wp2
    exact bodyPost_ret (by simp [results, Tryd.results36, go_sem] <;> omega) rfl ⟨rfl, rfl⟩

set_option maxHeartbeats 1000000 in
/-- Whether a number may be, by (fields).takes. -/
theorem takes_any (s n : Int) (w : World) (h0 : -9223372036854775808 ≤ n) (h1 : n ≤ 9223372036854775807) (hs : 0 ≤ s) (hs2 : s ≤ 8) :
    Calls Tryd.prog 72 #[fieldsV s, .int .i64 n] w fun e w' => e = .returned (.bool (immOk s n)) ∧ Below w.heap.size w w' := by
  unfold fieldsV
  rcases (show s = 0 ∨ s = 1 ∨ s = 2 ∨ s = 3 ∨ s = 4 ∨ s = 5 ∨ s = 6 ∨ s = 7 ∨ s = 8 by omega) with rfl | rfl | rfl | rfl | rfl | rfl | rfl | rfl | rfl
  all_goals
    simp only [show regsOf 0 = 0 from rfl, show bitsOf 0 = 0 from rfl, show signOf 0 = false from rfl, show regsOf 1 = 1 from rfl, show bitsOf 1 = 16 from rfl, show signOf 1 = true from rfl,
      show regsOf 2 = 1 from rfl, show bitsOf 2 = 16 from rfl, show signOf 2 = false from rfl, show regsOf 3 = 2 from rfl, show bitsOf 3 = 16 from rfl, show signOf 3 = true from rfl,
      show regsOf 4 = 2 from rfl, show bitsOf 4 = 16 from rfl, show signOf 4 = false from rfl, show regsOf 5 = 3 from rfl, show bitsOf 5 = 0 from rfl, show signOf 5 = false from rfl,
      show regsOf 6 = 1 from rfl, show bitsOf 6 = 0 from rfl, show signOf 6 = false from rfl, show regsOf 7 = 0 from rfl, show bitsOf 7 = 24 from rfl, show signOf 7 = true from rfl,
      show regsOf 8 = 0 from rfl, show bitsOf 8 = 16 from rfl, show signOf 8 = false from rfl]
    go_enter Tryd.func72, Tryd.ntmps72
    go_wp2_with fail
    first
      | refine (fits_any _ _ _ h0 h1 (by decide) (by decide)).mono ?_
      | refine (within_any _ _ _ h0 h1 (by decide) (by decide)).mono ?_
    rintro e w' ⟨rfl, rfl⟩
    go_wp2
    go_ret
    refine ⟨ret_bool ?_, (Below.refl _ _).alloc (Nat.le_refl _) _⟩
    first
      | exact fitB_16 n
      | exact fitB_24 n
      | exact withinB_16 n
      | exact withinB_0 n

/-- The mask of a number's bits. -/
def maskOf (s : Int) : Int := if bitsOf s = 16 then 65535 else if bitsOf s = 24 then 16777215 else 0
set_option maxHeartbeats 1000000 in
theorem mask_any (s : Int) (w : World) (hs : 0 ≤ s) (hs2 : s ≤ 8) :
    Calls Tryd.prog 73 #[fieldsV s] w fun e w' => e = .returned (.int .u32 (maskOf s)) ∧ Below w.heap.size w w' := by
  unfold fieldsV
  have hb : bitsOf s = 16 ∨ bitsOf s = 24 ∨ bitsOf s = 0 := by unfold bitsOf; omega
  have hm : maskOf s = if bitsOf s = 16 then 65535 else if bitsOf s = 24 then 16777215 else 0 := rfl
  generalize regsOf s = r
  generalize signOf s = g
  generalize bitsOf s = b at *
  have H := Lib.hid hm
  clear hm
  rcases hb with rfl | rfl | rfl
  all_goals
    go_enter Tryd.func73, Tryd.ntmps73
    go_wp2
    go_ret
    refine ⟨?_, (Below.refl _ _).alloc (Nat.le_refl _) _⟩
    rw [H.out]
    rfl
end Go.Proofs.YtcijjmmckofckaaDoor
