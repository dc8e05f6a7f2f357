/- Package instr and its answers: the texts of the fields. -/
import Derived.Test.YtnmpamfgkidmiaaDoorInstrF
import Derived.Test.YtnmpamfgkidmiaaDoorInstrN
import Derived.Test.YtnmpamfgkidmiaaDoorStrs
import Derived.Test.YtnmpamfgkidmiaaDoorWordF
namespace Go.Proofs.YtnmpamfgkidmiaaDoor
open Go.ChangeShapes Go.WideShapes Go.ChangeAt Go.RowKit
set_option linter.unusedVariables false

/-- What stands before a register's number. -/
def pfx (op k : Int) : ByteArray := if op = 26 ∧ k = 1 then ⟨#[]⟩ else ⟨#[114]⟩

set_option maxHeartbeats 1000000 in
theorem prefix_any (op k : Int) (w : World) :
    Calls Tryd.prog 80 #[.int .i64 op, .int .i64 k] w fun e w' => e = .returned (.string (pfx op k)) ∧ w = w' := by
  have hp : pfx op k = if op = 26 ∧ k = 1 then ⟨#[]⟩ else ⟨#[114]⟩ := rfl
  have P := Lib.hid hp
  clear hp
  by_cases h1 : op = 26
  · have d1 : (op == 26) = true := by simpa using h1
    by_cases h2 : k = 1
    · have d2 : (k == 1) = true := by simpa using h2
      have H := Lib.hid (And.intro h1 h2)
      clear h1 h2
      go_enter Tryd.func80, Tryd.ntmps80
      go_wp2
      go_ret
      exact ⟨by rw [P.out, if_pos H.out]; rfl, rfl⟩
    · have d2 : (k == 1) = false := by simpa using h2
      have H := Lib.hid h2
      clear h1 h2
      go_enter Tryd.func80, Tryd.ntmps80
      go_wp2
      go_ret
      exact ⟨by rw [P.out, if_neg (fun h => H.out h.2)]; rfl, rfl⟩
  · have d1 : (op == 26) = false := by simpa using h1
    have H := Lib.hid h1
    clear h1
    go_enter Tryd.func80, Tryd.ntmps80
    go_wp2
    go_ret
    exact ⟨by rw [P.out, if_neg (fun h => H.out h.1)]; rfl, rfl⟩

/-- A register's text; a number's. -/
def rt (op k r : Int) : ByteArray := pfx op k ++ strOfNums (textNums r)

def nt (n : Int) : ByteArray := strOfNums (textNums n)

def fieldTexts (op a b c n : Int) : List ByteArray :=
  (if 0 < regsOf (shapeOf op) then [rt op 0 a] else []) ++ ((if 1 < regsOf (shapeOf op) then [rt op 1 b] else []) ++ ((if 2 < regsOf (shapeOf op) then [rt op 2 c] else []) ++ (if 0 < bitsOf (shapeOf op) then [nt n] else [])))

theorem rt_0 (op r : Int) : rt op 0 r = (⟨#[114]⟩ : ByteArray) ++ strOfNums (textNums r) := by
  unfold rt pfx
  rw [if_neg (by omega)]

theorem rt_2 (op r : Int) : rt op 2 r = (⟨#[114]⟩ : ByteArray) ++ strOfNums (textNums r) := by
  unfold rt pfx
  rw [if_neg (by omega)]

theorem rt_1 {op : Int} (h : op ≠ 26) (r : Int) : rt op 1 r = (⟨#[114]⟩ : ByteArray) ++ strOfNums (textNums r) := by
  unfold rt pfx
  rw [if_neg (by omega)]

theorem rt_1c {op : Int} (h : op = 26) (r : Int) : rt op 1 r = strOfNums (textNums r) := by
  unfold rt pfx
  rw [if_pos ⟨h, rfl⟩]
  exact ByteArray.empty_append

theorem text_size (n : Int) : (strOfNums (textNums n)).size ≤ 21 := by
  have h := decF_length 20 n.natAbs (by omega)
  have : (strOfNums (textNums n)).size = (textNums n).length := by
    show ((textNums n).map _).toArray.size = _
    simp
  rw [this]
  unfold textNums
  split
  · simp
    omega
  · omega

theorem rowStr : StrRow Tryd.prog 51 9 := strRow_mk Tryd.underlying51 (by kernel_rfl)
end Go.Proofs.YtnmpamfgkidmiaaDoor
