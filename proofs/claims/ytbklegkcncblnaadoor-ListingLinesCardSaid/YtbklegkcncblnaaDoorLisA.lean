/- Package listing and its answers: Target, the line of a word. -/
import Derived.Test.YtbklegkcncblnaaDoorInstrS
import Derived.Test.YtbklegkcncblnaaDoorInstrR
import Derived.Test.YtbklegkcncblnaaDoorInstrJ
import Derived.Test.YtbklegkcncblnaaDoorWordB
import Derived.Test.YtbklegkcncblnaaDoorWordI
namespace Go.Proofs.YtbklegkcncblnaaDoor
open Go.ChangeShapes Go.WideShapes Go.ChangeAt Go.RowKit
set_option linter.unusedVariables false

/-- Where an instruction leads. -/
def leadTo (at_ n : Int) : Int := (at_ + 4 + 4 * n) % 4294967296

theorem leadTo_eq (at_ n : Int) : ((at_ + 4) % 4294967296 + 4 * (n % 4294967296) % 4294967296) % 4294967296 = leadTo at_ n := by
  unfold leadTo
  omega

theorem leadTo_u32 (at_ n : Int) : 0 ≤ leadTo at_ n ∧ leadTo at_ n ≤ 4294967295 := by
  unfold leadTo
  omega

set_option maxHeartbeats 1000000 in
set_option maxRecDepth 100000 in
theorem target_yes (at_ op a b c n : Int) (w : World) (h : 20 ≤ op ∧ op ≤ 23) :
    Calls Tryd.prog 24 #[.int .u32 at_, instrV op a b c n] w fun e w' => e = .returned (.tuple #[.int .u32 (leadTo at_ n), .bool true]) ∧ Below w.heap.size w w' := by
  have hL := leadTo_eq at_ n
  have B0 := Lib.hid ((Below.refl w.heap.size w).alloc (Nat.le_refl _) (.cells #[.int .i64 op, .int .i64 a, .int .i64 b, .int .i64 c, .int .i64 n] 47))
  unfold instrV
  rcases (show op = 20 ∨ op = 21 ∨ op = 22 ∨ op = 23 by omega) with rfl | rfl | rfl | rfl
  all_goals
    clear h
    go_enter Tryd.func24, Tryd.ntmps24
    go_wp2_with fail
    go_ret2
    exact ⟨by rw [← hL]; rfl, B0.out⟩

set_option maxHeartbeats 1000000 in
set_option maxRecDepth 100000 in
theorem target_no (at_ op a b c n : Int) (w : World) (h : ¬ (20 ≤ op ∧ op ≤ 23)) :
    Calls Tryd.prog 24 #[.int .u32 at_, instrV op a b c n] w fun e w' => e = .returned (.tuple #[.int .u32 0, .bool false]) ∧ Below w.heap.size w w' := by
  have B0 := Lib.hid ((Below.refl w.heap.size w).alloc (Nat.le_refl _) (.cells #[.int .i64 op, .int .i64 a, .int .i64 b, .int .i64 c, .int .i64 n] 47))
  have d0 : (op == 20) = false := by simp; omega
  have d1 : (op == 21) = false := by simp; omega
  have d2 : (op == 22) = false := by simp; omega
  have d3 : (op == 23) = false := by simp; omega
  unfold instrV
  clear h
  go_enter Tryd.func24, Tryd.ntmps24
  go_wp2_with fail
  go_ret2
  exact ⟨rfl, B0.out⟩

theorem joinUp_size {s : ByteArray} {l : List ByteArray} (hs : s.size ≤ 5) (hl : ∀ x ∈ l, x.size ≤ 22) (k : Nat) : (joinUp s l k).size ≤ 5 + 24 * k := by
  induction k with
  | zero => simpa [joinUp] using hs
  | succ k ih =>
    have hg : (l.getD k ⟨#[]⟩).size ≤ 22 := by
      rw [List.getD_eq_getElem?_getD]
      cases h : l[k]? with
      | none => exact Nat.zero_le _
      | some x => exact hl x (List.mem_of_getElem? h)
    have h1 : (⟨#[44]⟩ : ByteArray).size = 1 := rfl
    have h2 : (⟨#[32]⟩ : ByteArray).size = 1 := rfl
    unfold joinUp
    rw [ByteArray.size_append, ByteArray.size_append, h2]
    split
    · rw [ByteArray.size_append, h1]
      omega
    · omega

theorem textOf_size (op a b c n : Int) : (textOf op a b c n).size ≤ 101 := by
  obtain ⟨h1, h2⟩ := fields_small op a b c n
  have := joinUp_size (name_size op) h2 (fieldTexts op a b c n).length
  unfold textOf
  omega

/-- Is a word an instruction? -/
def OkX (x : Int) : Prop := shapeOf (x / 16777216) ≠ -1 ∧ wordOf (x / 16777216) (decA x) (decB x) (decC x) (decN x) = x

instance (x : Int) : Decidable (OkX x) := by unfold OkX; infer_instance

def hexStr (n : Int) : ByteArray := strOfNums (hexNums n)

theorem hexStr_size (n : Int) : (hexStr n).size = 8 := by
  unfold hexStr
  rw [strOfNums_size]
  rfl

def decText (x : Int) : ByteArray := textOf (x / 16777216) (decA x) (decB x) (decC x) (decN x)

/-- What a line says of a word. -/
def meanOf (at_ x : Int) : ByteArray :=
  if OkX x then (if 20 ≤ x / 16777216 ∧ x / 16777216 ≤ 23 then decText x ++ ⟨#[32, 45, 62, 32]⟩ ++ hexStr (leadTo at_ (decN x)) else decText x) else ⟨#[63]⟩

theorem meanOf_size (at_ x : Int) : (meanOf at_ x).size ≤ 113 := by
  have h1 := textOf_size (x / 16777216) (decA x) (decB x) (decC x) (decN x)
  have h2 : (⟨#[32, 45, 62, 32]⟩ : ByteArray).size = 4 := rfl
  unfold meanOf decText
  split
  · split
    · rw [ByteArray.size_append, ByteArray.size_append, hexStr_size, h2]
      omega
    · omega
  · decide

/-- The line of a word. -/
def lineOf (at_ x : Int) : ByteArray := hexStr at_ ++ ⟨#[32]⟩ ++ hexStr x ++ ⟨#[32]⟩ ++ meanOf at_ x

theorem dec_i64 {x : Int} (h0 : 0 ≤ x) (h1 : x ≤ 4294967295) (h : shapeOf (x / 16777216) ≠ -1) : I64 (decA x) ∧ I64 (decB x) ∧ I64 (decC x) ∧ I64 (decN x) := by
  obtain ⟨a0, a1, b0, b1, c0, c1, _, _, _, n0, n1⟩ := decGood h0 h1 h
  unfold lowOf at n0
  unfold highOf at n1
  unfold I64
  split at n0 <;> split at n1 <;> (try split at n0) <;> (try split at n1) <;> (try split at n1) <;> (refine ⟨?_, ?_, ?_, ?_⟩ <;> omega)
end Go.Proofs.YtbklegkcncblnaaDoor
