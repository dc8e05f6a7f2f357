/- LisA LisB LisE LisG in one. -/
import Derived.Test.YtnmpamfgkidmiaaDoorInstrQS
import Derived.Test.YtnmpamfgkidmiaaDoorInstrJJ
import Derived.Test.YtnmpamfgkidmiaaDoorWordB
import Derived.Test.YtnmpamfgkidmiaaDoorWordI
import Derived.Test.YtnmpamfgkidmiaaDoorShelf
import Derived.Test.YtnmpamfgkidmiaaDoorWordE

/- Package listing and its answers: Target, the line of a word. -/
namespace Go.Proofs.YtnmpamfgkidmiaaDoor
open Go.ChangeShapes Go.WideShapes Go.ChangeAt Go.RowKit
set_option linter.unusedVariables false

/-- Where an instruction leads. -/
def leadTo (at_ n : Int) : Int := (at_ + 4 + 4 * n) % 4294967296

theorem leadTo_eq (at_ n : Int) : ((at_ + 4) % 4294967296 + 4 * (n % 4294967296) % 4294967296) % 4294967296 = leadTo at_ n := by
  unfold leadTo
  omega

theorem leadTo_u32 (at_ n : Int) : 0 ≤ leadTo at_ n ∧ leadTo at_ n ≤ 4294967295 := by
  unfold leadTo
  omega

theorem joinUp_size {s : ByteArray} {l : List ByteArray} (hs : s.size ≤ 5) (hl : ∀ x ∈ l, x.size ≤ 22) (k : Nat) : (joinUp s l k).size ≤ 5 + 24 * k := by
  induction k with
  | zero => simpa [joinUp] using hs
  | succ k ih =>
    have hg : (l.getD k ⟨#[]⟩).size ≤ 22 := by
      rw [List.getD_eq_getElem?_getD]
      cases h : l[k]? with
      | none => exact Nat.zero_le _
      | some x => exact hl x (List.mem_of_getElem? h)
    have h1 : (⟨#[44]⟩ : ByteArray).size = 1 := rfl
    have h2 : (⟨#[32]⟩ : ByteArray).size = 1 := rfl
    unfold joinUp
    rw [ByteArray.size_append, ByteArray.size_append, h2]
    split
    · rw [ByteArray.size_append, h1]
      omega
    · omega

theorem textOf_size (op a b c n : Int) : (textOf op a b c n).size ≤ 101 := by
  obtain ⟨h1, h2⟩ := fields_small op a b c n
  have := joinUp_size (name_size op) h2 (fieldTexts op a b c n).length
  unfold textOf
  omega

/-- Is a word an instruction? -/
def OkX (x : Int) : Prop := shapeOf (x / 16777216) ≠ -1 ∧ wordOf (x / 16777216) (decA x) (decB x) (decC x) (decN x) = x

instance (x : Int) : Decidable (OkX x) := by unfold OkX; infer_instance

def hexStr (n : Int) : ByteArray := strOfNums (hexNums n)

theorem hexStr_size (n : Int) : (hexStr n).size = 8 := by
  unfold hexStr
  rw [strOfNums_size]
  rfl

def decText (x : Int) : ByteArray := textOf (x / 16777216) (decA x) (decB x) (decC x) (decN x)

/-- What a line says of a word. -/
def meanOf (at_ x : Int) : ByteArray :=
  if OkX x then (if 20 ≤ x / 16777216 ∧ x / 16777216 ≤ 23 then decText x ++ ⟨#[32, 45, 62, 32]⟩ ++ hexStr (leadTo at_ (decN x)) else decText x) else ⟨#[63]⟩

theorem meanOf_size (at_ x : Int) : (meanOf at_ x).size ≤ 113 := by
  have h1 := textOf_size (x / 16777216) (decA x) (decB x) (decC x) (decN x)
  have h2 : (⟨#[32, 45, 62, 32]⟩ : ByteArray).size = 4 := rfl
  unfold meanOf decText
  split
  · split
    · rw [ByteArray.size_append, ByteArray.size_append, hexStr_size, h2]
      omega
    · omega
  · decide

/-- The line of a word. -/
def lineOf (at_ x : Int) : ByteArray := hexStr at_ ++ ⟨#[32]⟩ ++ hexStr x ++ ⟨#[32]⟩ ++ meanOf at_ x

theorem dec_i64 {x : Int} (h0 : 0 ≤ x) (h1 : x ≤ 4294967295) (h : shapeOf (x / 16777216) ≠ -1) : I64 (decA x) ∧ I64 (decB x) ∧ I64 (decC x) ∧ I64 (decN x) := by
  obtain ⟨a0, a1, b0, b1, c0, c1, _, _, _, n0, n1⟩ := decGood h0 h1 h
  unfold lowOf at n0
  unfold highOf at n1
  unfold I64
  split at n0 <;> split at n1 <;> (try split at n0) <;> (try split at n1) <;> (try split at n1) <;> (refine ⟨?_, ?_, ?_, ?_⟩ <;> omega)
end Go.Proofs.YtnmpamfgkidmiaaDoor

/- Package listing and its answers: meaning, Line, both. -/
namespace Go.Proofs.YtnmpamfgkidmiaaDoor
open Go.ChangeShapes Go.WideShapes Go.ChangeAt Go.RowKit
set_option linter.unusedVariables false

theorem check_zero : checkOf 0 0 0 0 0 = 21 := by
  unfold checkOf
  rw [if_pos (by decide)]

theorem zero_i64 : I64 0 := by unfold I64; omega

theorem u32_add (x y : Int) : (x + y) % 4294967296 = (x + y) % 4294967296 := rfl

end Go.Proofs.YtnmpamfgkidmiaaDoor

/- Package listing: what a line is read as. -/
namespace Go.Proofs.YtnmpamfgkidmiaaDoor
open Go.ChangeShapes Go.WideShapes Go.ChangeAt Go.RowKit
set_option linter.unusedVariables false

/-- The library's variable holds some number. -/
def MaxIn (w : World) : Prop := ∃ m, w.cell? ⟨0, 0, none⟩ = some (.int .i64 m)

theorem MaxIn.below {w w' : World} {B : Nat} (h : MaxIn w) (hb : Below B w w') (hB : w.heap.size ≤ B) : MaxIn w' := by
  obtain ⟨m, hm⟩ := h
  exact ⟨m, (hb.cell (p := ⟨0, 0, none⟩) (Nat.lt_of_lt_of_le (block_lt hm) hB)).trans hm⟩

/-- What lies ahead of a sign, and behind it. -/
def cutA (s : ByteArray) (c : UInt8) : ByteArray := ⟨(Lib.cut s.data.toList [c]).1.toArray⟩

def cutB (s : ByteArray) (c : UInt8) : ByteArray := ⟨(Lib.cut s.data.toList [c]).2.1.toArray⟩

def cutF (s : ByteArray) (c : UInt8) : Bool := (Lib.cut s.data.toList [c]).2.2

theorem cutA_size (s : ByteArray) (c : UInt8) : (cutA s c).size ≤ s.size := by
  unfold cutA Lib.cut
  show List.length _ ≤ s.data.toList.length
  split
  · simp
    omega
  · simp

theorem cutB_size (s : ByteArray) (c : UInt8) : (cutB s c).size ≤ s.size := by
  unfold cutB Lib.cut
  show List.length _ ≤ s.data.toList.length
  split
  · simp
  · simp

theorem cut_any (s : ByteArray) (c : UInt8) (w : World) (hM : MaxIn w) (hs : s.size ≤ 1000000) :
    Calls Tryd.prog 41 #[.string s, .string ⟨#[c]⟩] w fun e w' => e = .returned (.tuple #[.string (cutA s c), .string (cutB s c), .bool (cutF s c)]) ∧ Below w.heap.size w w' := by
  obtain ⟨m, hm⟩ := hM
  refine (Tryd.strings_Cut s ⟨#[c]⟩ m w (by omega) hm).mono ?_
  rintro e w' ⟨rfl, n, rfl⟩
  exact ⟨rfl, below_drawn (Below.refl _ _) n⟩

/-- Eight digits? Their number. -/
def hexOk (s : ByteArray) : Bool := decide (s.size = 8) && hexAll (bys s)

def hexVal (s : ByteArray) : Int := if hexOk s = true then hexSum (bys s) else 0

theorem hexVal_u32 (s : ByteArray) : 0 ≤ hexVal s ∧ hexVal s ≤ 4294967295 := by
  unfold hexVal hexOk
  split
  · rename_i h
    simp only [Bool.and_eq_true, decide_eq_true_eq] at h
    have := hexSum_bound (bys s) h.2
    rw [bys_length, h.1] at this
    have h2 : (16 : Int) ^ 8 = 4294967296 := by decide
    omega
  · omega

theorem parsehex_all (s : ByteArray) (w : World) (hm : s.size ≤ maxLen) :
    Calls Tryd.prog 70 #[.string s] w fun e w' => e = .returned (.tuple #[.int .u32 (hexVal s), .bool (hexOk s)]) ∧ w = w' := by
  by_cases h : s.size = 8
  · refine (parsehex_any s w h).mono ?_
    rintro e w' ⟨rfl, rfl⟩
    refine ⟨?_, rfl⟩
    cases hh : hexAll (bys s) with
    | true =>
      rw [hexRes_yes hh]
      simp [hexVal, hexOk, h, hh]
    | false =>
      rw [hexRes_no hh]
      simp [hexVal, hexOk, h, hh]
  · refine (parsehex_short s w h hm).mono ?_
    rintro e w' ⟨rfl, rfl⟩
    exact ⟨by simp [hexVal, hexOk, h], rfl⟩

theorem refparsehex_all (s : ByteArray) (w : World) (hm : s.size ≤ maxLen) :
    Calls Tryd.prog 48 #[.string s] w fun e w' => e = .returned (.tuple #[.int .u32 (hexVal s), .bool (hexOk s)]) ∧ Below w.heap.size w w' := by
  by_cases h : s.size = 8
  · refine (refparsehex_any s w h).mono ?_
    rintro e w' ⟨rfl, hb⟩
    refine ⟨?_, hb⟩
    cases hh : hexAll (bys s) with
    | true =>
      rw [hexRes_yes hh]
      simp [hexVal, hexOk, h, hh]
    | false =>
      rw [hexRes_no hh]
      simp [hexVal, hexOk, h, hh]
  · refine (refparsehex_short s w h hm).mono ?_
    rintro e w' ⟨rfl, rfl⟩
    exact ⟨by simp [hexVal, hexOk, h], Below.refl _ _⟩

/-- The address and the word that a line's digits give. -/
def atOf (s : ByteArray) : Int := hexVal (cutA s 32)

def wdOf (s : ByteArray) : Int := hexVal (cutA (cutB s 32) 32)

/-- Is a line that of its digits? -/
def okLine (s : ByteArray) : Bool := hexOk (cutA s 32) && (hexOk (cutA (cutB s 32) 32) && ((lineOf (atOf s) (wdOf s)).toList == s.toList))

/-- What a line is read as. -/
def plineV (s : ByteArray) : Value := .tuple #[.int .u32 (if okLine s = true then atOf s else 0), .int .u32 (if okLine s = true then wdOf s else 0), .bool (okLine s)]

theorem plineV_yes {s : ByteArray} (h : okLine s = true) : plineV s = .tuple #[.int .u32 (atOf s), .int .u32 (wdOf s), .bool true] := by
  unfold plineV
  rw [if_pos h, if_pos h, h]

theorem plineV_no {s : ByteArray} (h : okLine s = false) : plineV s = .tuple #[.int .u32 0, .int .u32 0, .bool false] := by
  unfold plineV
  rw [if_neg (by rw [h]; decide), if_neg (by rw [h]; decide), h]

end Go.Proofs.YtnmpamfgkidmiaaDoor

/- Listing, plain: a line, by its bytes. -/
namespace Go.Proofs.YtnmpamfgkidmiaaDoor
open Go.ChangeShapes Go.WideShapes Go.ChangeAt Go.RowKit
set_option linter.unusedVariables false
set_option linter.unusedSimpArgs false

theorem indexByte_ahead : ∀ (a r : List UInt8) (c : UInt8), (∀ b ∈ a, b ≠ c) → Lib.indexByte (a ++ c :: r) c = a.length
  | [], r, c, _ => by simp [Lib.indexByte]
  | b :: a, r, c, h => by
    have hb : b ≠ c := h b (by simp)
    have ih := indexByte_ahead a r c (fun x hx => h x (by simp [hx]))
    have hb2 : (b == c) = false := by simpa using hb
    simp only [List.cons_append, Lib.indexByte]
    simp [hb2, hb, ih]

theorem indexByte_none_of : ∀ (a : List UInt8) (c : UInt8), (∀ b ∈ a, b ≠ c) → Lib.indexByte a c = -1
  | [], c, _ => by simp [Lib.indexByte]
  | b :: a, c, h => by
    have hb : b ≠ c := h b (by simp)
    have ih := indexByte_none_of a c (fun x hx => h x (by simp [hx]))
    have hb2 : (b == c) = false := by simpa using hb
    simp only [Lib.indexByte]
    simp [hb2, hb, ih]

theorem cut_ahead (a r : List UInt8) (c : UInt8) (h : ∀ b ∈ a, b ≠ c) : Lib.cut (a ++ c :: r) [c] = (a, r, true) := by
  unfold Lib.cut
  rw [Lib.index_one, indexByte_ahead a r c h, if_pos (by omega)]
  simp

theorem cut_none (a : List UInt8) (c : UInt8) (h : ∀ b ∈ a, b ≠ c) : Lib.cut a [c] = (a, [], false) := by
  unfold Lib.cut
  rw [Lib.index_one, indexByte_none_of a c h, if_neg (by omega)]

theorem hexStr_no32 (n : Int) : ∀ b ∈ (hexStr n).data.toList, b ≠ (32 : UInt8) := by
  intro b hb he
  subst he
  have h1 : (32 : Int) ∈ bys (hexStr n) := by
    unfold bys
    exact List.mem_map.2 ⟨32, hb, rfl⟩
  unfold hexStr at h1
  rw [bys_nums _ (hexNums_byte n)] at h1
  unfold hexNums hexdg at h1
  simp only [List.mem_cons, List.not_mem_nil, or_false] at h1
  rcases h1 with h | h | h | h | h | h | h | h <;> (split at h <;> omega)

theorem hexOk_hex (n : Int) : hexOk (hexStr n) = true := by
  unfold hexOk
  rw [hexStr_size]
  unfold hexStr
  rw [bys_nums _ (hexNums_byte n), hexAll_hex]
  rfl

theorem hexVal_hex (n : Int) (h0 : 0 ≤ n) (h1 : n ≤ 4294967295) : hexVal (hexStr n) = n := by
  unfold hexVal
  rw [if_pos (hexOk_hex n)]
  unfold hexStr
  rw [bys_nums _ (hexNums_byte n), hexSum_hex n h0 h1]

theorem data_line (x y : Int) : (lineOf x y).data.toList = (hexStr x).data.toList ++ 32 :: ((hexStr y).data.toList ++ 32 :: (meanOf x y).data.toList) := by
  unfold lineOf
  simp [ByteArray.data_append]

theorem cutA_line (x y : Int) : cutA (lineOf x y) 32 = hexStr x := by
  unfold cutA
  rw [data_line, cut_ahead _ _ _ (hexStr_no32 x)]

theorem cutB_line (x y : Int) : cutA (cutB (lineOf x y) 32) 32 = hexStr y := by
  unfold cutA cutB
  rw [data_line, cut_ahead _ _ _ (hexStr_no32 x)]
  simp only []
  rw [cut_ahead _ _ _ (hexStr_no32 y)]

theorem line_ok (x y : Int) (hx : 0 ≤ x ∧ x ≤ 4294967295) (hy : 0 ≤ y ∧ y ≤ 4294967295) : okLine (lineOf x y) = true ∧ atOf (lineOf x y) = x ∧ wdOf (lineOf x y) = y := by
  have h1 : atOf (lineOf x y) = x := by
    unfold atOf
    rw [cutA_line, hexVal_hex x hx.1 hx.2]
  have h2 : wdOf (lineOf x y) = y := by
    unfold wdOf
    rw [cutB_line, hexVal_hex y hy.1 hy.2]
  refine ⟨?_, h1, h2⟩
  unfold okLine
  rw [h1, h2, cutA_line, cutB_line, hexOk_hex, hexOk_hex]
  simp

theorem ok_line {s : ByteArray} (h : okLine s = true) : s = lineOf (atOf s) (wdOf s) := by
  unfold okLine at h
  simp only [Bool.and_eq_true, beq_iff_eq] at h
  have := h.2.2
  rw [ByteArray.toList_eq, ByteArray.toList_eq] at this
  exact (ByteArray.ext (Array.ext' this)).symm

theorem line_size (x y : Int) : 18 ≤ (lineOf x y).size := by
  unfold lineOf
  have h2 : (⟨#[32]⟩ : ByteArray).size = 1 := rfl
  rw [ByteArray.size_append, ByteArray.size_append, ByteArray.size_append, ByteArray.size_append, hexStr_size, hexStr_size, h2]
  omega

theorem line_first (x y : Int) : (lineOf x y).extract 0 8 = hexStr x := by
  have z := hexStr_size x
  apply ByteArray.ext
  apply Array.ext'
  rw [ByteArray.data_extract, Array.toList_extract, data_line]
  have z2 : (hexStr x).data.toList.length = 8 := z
  simp [List.extract, z2]

theorem line_second (x y : Int) : (lineOf x y).extract 9 17 = hexStr y := by
  have z := hexStr_size x
  have z1 := hexStr_size y
  apply ByteArray.ext
  apply Array.ext'
  rw [ByteArray.data_extract, Array.toList_extract, data_line]
  have z2 : (hexStr x).data.toList.length = 8 := z
  have z3 : (hexStr y).data.toList.length = 8 := z1
  rw [List.extract_eq_take_drop, List.append_cons, List.drop_left' (by simp [z2])]
  exact List.take_left' (by simp [z3])

/-- What the answers ask of a line. -/
def refOk (s : ByteArray) (n : Nat) (f : Int) : Prop :=
  18 ≤ s.size ∧ hexOk (s.extract 0 8) = true ∧ hexOk (s.extract 9 17) = true ∧ s = lineOf (((if n = 0 then hexVal (s.extract 0 8) else f) + 4 * n) % 4294967296) (hexVal (s.extract 9 17))

theorem refOk_iff (s : ByteArray) (n : Nat) (f : Int) : refOk s n f ↔ (okLine s = true ∧ atOf s = ((if n = 0 then atOf s else f) + 4 * n) % 4294967296) := by
  constructor
  · rintro ⟨h1, h2, h3, h4⟩
    have hx : 0 ≤ ((if n = 0 then hexVal (s.extract 0 8) else f) + 4 * n) % 4294967296 ∧ ((if n = 0 then hexVal (s.extract 0 8) else f) + 4 * n) % 4294967296 ≤ 4294967295 := by omega
    have L := line_ok _ (hexVal (s.extract 9 17)) hx (hexVal_u32 _)
    rw [← h4] at L
    refine ⟨L.1, ?_⟩
    by_cases hn : n = 0
    · subst hn
      have := hexVal_u32 (cutA s 32)
      rw [if_pos rfl]
      unfold atOf
      omega
    · rw [if_neg hn]
      have h5 := L.2.1
      rw [if_neg hn] at h5
      exact h5
  · rintro ⟨h1, h2⟩
    have h3 := ok_line h1
    have e1 : s.extract 0 8 = hexStr (atOf s) := by
      conv => lhs; rw [h3]
      exact line_first _ _
    have e2 : s.extract 9 17 = hexStr (wdOf s) := by
      conv => lhs; rw [h3]
      exact line_second _ _
    have u1 : 0 ≤ atOf s ∧ atOf s ≤ 4294967295 := hexVal_u32 _
    have u2 : 0 ≤ wdOf s ∧ wdOf s ≤ 4294967295 := hexVal_u32 _
    refine ⟨?_, by rw [e1]; exact hexOk_hex _, by rw [e2]; exact hexOk_hex _, ?_⟩
    · rw [h3]
      exact line_size _ _
    · rw [e1, e2, hexVal_hex _ u1.1 u1.2, hexVal_hex _ u2.1 u2.2, ← h2]
      exact h3

theorem refOk_vals {s : ByteArray} (h : okLine s = true) : hexVal (s.extract 0 8) = atOf s ∧ hexVal (s.extract 9 17) = wdOf s := by
  have h3 := ok_line h
  have u1 : 0 ≤ atOf s ∧ atOf s ≤ 4294967295 := hexVal_u32 _
  have u2 : 0 ≤ wdOf s ∧ wdOf s ≤ 4294967295 := hexVal_u32 _
  constructor
  · rw [show s.extract 0 8 = hexStr (atOf s) from by conv => lhs; rw [h3]
                                                     exact line_first _ _, hexVal_hex _ u1.1 u1.2]
  · rw [show s.extract 9 17 = hexStr (wdOf s) from by conv => lhs; rw [h3]
                                                      exact line_second _ _, hexVal_hex _ u2.1 u2.2]
end Go.Proofs.YtnmpamfgkidmiaaDoor
