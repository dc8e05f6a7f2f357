/- LisE LisG LisF LisH LisI in one. -/
import Derived.Test.YtoffagmoaedkbaaDoorLisAD
import Derived.Test.YtoffagmoaedkbaaDoorShelf
import Derived.Test.YtoffagmoaedkbaaDoorWordE
import Derived.Test.YtoffagmoaedkbaaDoorWordI
import Derived.Test.YtoffagmoaedkbaaDoorSlices
import Derived.StillTailTactics
import Derived.Deep.QuietTactic
import Derived.BigQuiet

/- Package listing: what a line is read as. -/
namespace Go.Proofs.YtoffagmoaedkbaaDoor
open Go.ChangeShapes Go.WideShapes Go.ChangeAt Go.RowKit
set_option linter.unusedVariables false

/-- The library's variable holds some number. -/
def MaxIn (w : World) : Prop := ∃ m, w.cell? ⟨0, 0, none⟩ = some (.int .i64 m)

theorem MaxIn.below {w w' : World} {B : Nat} (h : MaxIn w) (hb : Below B w w') (hB : w.heap.size ≤ B) : MaxIn w' := by
  obtain ⟨m, hm⟩ := h
  exact ⟨m, (hb.cell (p := ⟨0, 0, none⟩) (Nat.lt_of_lt_of_le (block_lt hm) hB)).trans hm⟩

/-- What lies ahead of a sign, and behind it. -/
def cutA (s : ByteArray) (c : UInt8) : ByteArray := ⟨(Lib.cut s.data.toList [c]).1.toArray⟩

def cutB (s : ByteArray) (c : UInt8) : ByteArray := ⟨(Lib.cut s.data.toList [c]).2.1.toArray⟩

def cutF (s : ByteArray) (c : UInt8) : Bool := (Lib.cut s.data.toList [c]).2.2

theorem cutA_size (s : ByteArray) (c : UInt8) : (cutA s c).size ≤ s.size := by
  unfold cutA Lib.cut
  show List.length _ ≤ s.data.toList.length
  split
  · simp
    omega
  · simp

theorem cutB_size (s : ByteArray) (c : UInt8) : (cutB s c).size ≤ s.size := by
  unfold cutB Lib.cut
  show List.length _ ≤ s.data.toList.length
  split
  · simp
  · simp

theorem cut_any (s : ByteArray) (c : UInt8) (w : World) (hM : MaxIn w) (hs : s.size ≤ 1000000) :
    Calls Tryd.prog 47 #[.string s, .string ⟨#[c]⟩] w fun e w' => e = .returned (.tuple #[.string (cutA s c), .string (cutB s c), .bool (cutF s c)]) ∧ Below w.heap.size w w' := by
  obtain ⟨m, hm⟩ := hM
  refine (Tryd.strings_Cut s ⟨#[c]⟩ m w (by omega) hm).mono ?_
  rintro e w' ⟨rfl, n, rfl⟩
  exact ⟨rfl, below_drawn (Below.refl _ _) n⟩

/-- Eight digits? Their number. -/
def hexOk (s : ByteArray) : Bool := decide (s.size = 8) && hexAll (bys s)

def hexVal (s : ByteArray) : Int := if hexOk s = true then hexSum (bys s) else 0

theorem hexVal_u32 (s : ByteArray) : 0 ≤ hexVal s ∧ hexVal s ≤ 4294967295 := by
  unfold hexVal hexOk
  split
  · rename_i h
    simp only [Bool.and_eq_true, decide_eq_true_eq] at h
    have := hexSum_bound (bys s) h.2
    rw [bys_length, h.1] at this
    have h2 : (16 : Int) ^ 8 = 4294967296 := by decide
    omega
  · omega

theorem parsehex_all (s : ByteArray) (w : World) (hm : s.size ≤ maxLen) :
    Calls Tryd.prog 85 #[.string s] w fun e w' => e = .returned (.tuple #[.int .u32 (hexVal s), .bool (hexOk s)]) ∧ w = w' := by
  by_cases h : s.size = 8
  · refine (parsehex_any s w h).mono ?_
    rintro e w' ⟨rfl, rfl⟩
    refine ⟨?_, rfl⟩
    cases hh : hexAll (bys s) with
    | true =>
      rw [hexRes_yes hh]
      simp [hexVal, hexOk, h, hh]
    | false =>
      rw [hexRes_no hh]
      simp [hexVal, hexOk, h, hh]
  · refine (parsehex_short s w h hm).mono ?_
    rintro e w' ⟨rfl, rfl⟩
    exact ⟨by simp [hexVal, hexOk, h], rfl⟩

theorem refparsehex_all (s : ByteArray) (w : World) (hm : s.size ≤ maxLen) :
    Calls Tryd.prog 66 #[.string s] w fun e w' => e = .returned (.tuple #[.int .u32 (hexVal s), .bool (hexOk s)]) ∧ Below w.heap.size w w' := by
  by_cases h : s.size = 8
  · refine (refparsehex_any s w h).mono ?_
    rintro e w' ⟨rfl, hb⟩
    refine ⟨?_, hb⟩
    cases hh : hexAll (bys s) with
    | true =>
      rw [hexRes_yes hh]
      simp [hexVal, hexOk, h, hh]
    | false =>
      rw [hexRes_no hh]
      simp [hexVal, hexOk, h, hh]
  · refine (refparsehex_short s w h hm).mono ?_
    rintro e w' ⟨rfl, rfl⟩
    exact ⟨by simp [hexVal, hexOk, h], Below.refl _ _⟩

/-- The address and the word that a line's digits give. -/
def atOf (s : ByteArray) : Int := hexVal (cutA s 32)

def wdOf (s : ByteArray) : Int := hexVal (cutA (cutB s 32) 32)

/-- Is a line that of its digits? -/
def okLine (s : ByteArray) : Bool := hexOk (cutA s 32) && (hexOk (cutA (cutB s 32) 32) && ((lineOf (atOf s) (wdOf s)).toList == s.toList))

/-- What a line is read as. -/
def plineV (s : ByteArray) : Value := .tuple #[.int .u32 (if okLine s = true then atOf s else 0), .int .u32 (if okLine s = true then wdOf s else 0), .bool (okLine s)]

theorem plineV_yes {s : ByteArray} (h : okLine s = true) : plineV s = .tuple #[.int .u32 (atOf s), .int .u32 (wdOf s), .bool true] := by
  unfold plineV
  rw [if_pos h, if_pos h, h]

theorem plineV_no {s : ByteArray} (h : okLine s = false) : plineV s = .tuple #[.int .u32 0, .int .u32 0, .bool false] := by
  unfold plineV
  rw [if_neg (by rw [h]; decide), if_neg (by rw [h]; decide), h]

set_option maxHeartbeats 4000000 in
set_option maxRecDepth 100000 in
theorem parseline_any (s : ByteArray) (w : World) (hS : ShapesIn w) (hN : NamesIn w) (hM : MaxIn w) (hs : s.size ≤ 1000000) :
    Calls Tryd.prog 48 #[.string s] w fun e w' => e = .returned (plineV s) ∧ Below w.heap.size w w' := by
  have HS := Lib.hid hS
  have HN := Lib.hid hN
  have HM := Lib.hid hM
  have z1 := cutA_size s 32
  have z2 := cutB_size s 32
  have z3 := cutA_size (cutB s 32) 32
  have C1 := Lib.hid (fun w hm => cut_any s 32 w hm hs)
  have C2 := Lib.hid (fun w hm => cut_any (cutB s 32) 32 w hm (by omega))
  have P1 := Lib.hid (fun w => parsehex_all (cutA s 32) w (by unfold maxLen; omega))
  have P2 := Lib.hid (fun w => parsehex_all (cutA (cutB s 32) 32) w (by unfold maxLen; omega))
  have LN := Lib.hid (fun w hs hn => line_any (atOf s) (wdOf s) w hs hn (hexVal_u32 _) (hexVal_u32 _).1 (hexVal_u32 _).2)
  have OK := Lib.hid (show okLine s = (hexOk (cutA s 32) && (hexOk (cutA (cutB s 32) 32) && ((lineOf (atOf s) (wdOf s)).toList == s.toList))) from rfl)
  rw [show hexVal (cutA s 32) = atOf s from rfl] at P1
  rw [show hexVal (cutA (cutB s 32) 32) = wdOf s from rfl] at P2
  have PY := Lib.hid (fun h => plineV_yes (s := s) h)
  have PN := Lib.hid (fun h => plineV_no (s := s) h)
  clear hS hN hM z1 z2 z3 hs
  generalize plineV s = pv at *
  generalize okLine s = ok at *
  generalize lineOf (atOf s) (wdOf s) = ln at *
  generalize atOf s = x at *
  generalize wdOf s = y at *
  generalize hexOk (cutA s 32) = b1 at *
  generalize hexOk (cutA (cutB s 32) 32) = b2 at *
  generalize cutA (cutB s 32) 32 = s4 at *
  generalize cutB (cutB s 32) 32 = s5 at *
  generalize cutF (cutB s 32) 32 = f5 at *
  generalize cutA s 32 = s2 at *
  generalize cutB s 32 = s3 at *
  generalize cutF s 32 = f3 at *
  go_enter Tryd.func48, Tryd.ntmps48
  go_wp2_with fail
  refine (C1.out _ HM.out).mono ?_
  rintro e w1 ⟨rfl, hb1⟩
  have B1 := Lib.hid hb1
  clear hb1
  go_wp2_with fail
  refine (C2.out _ (HM.out.below B1.out (Nat.le_refl _))).mono ?_
  rintro e w2 ⟨rfl, hb2⟩
  have B2 := Lib.hid (B1.out.trans (hb2.mono B1.out.size))
  clear hb2
  go_wp2_with fail
  refine (P1.out _).mono ?_
  rintro e w3 ⟨rfl, rfl⟩
  cases b1 with
  | false =>
    have OK1 := Lib.hid (PN.out (OK.out.trans (by simp)))
    clear OK PY PN
    go_wp2_with fail
    go_ret3
    exact ⟨by rw [OK1.out]; rfl, B2.out⟩
  | true =>
    go_wp2_with fail
    refine (P2.out _).mono ?_
    rintro e w4 ⟨rfl, rfl⟩
    cases b2 with
    | false =>
      have OK1 := Lib.hid (PN.out (OK.out.trans (by simp)))
      clear OK PY PN
      go_wp2_with fail
      go_ret3
      exact ⟨by rw [OK1.out]; rfl, B2.out⟩
    | true =>
      go_wp2_with fail
      refine (LN.out _ (HS.out.below B2.out (Nat.le_refl _)) (HN.out.below B2.out (Nat.le_refl _))).mono ?_
      rintro e w5 ⟨rfl, hb5⟩
      have B5 := Lib.hid (B2.out.trans (hb5.mono B2.out.size))
      clear hb5
      cases he : (ln.toList == s.toList) with
      | true =>
        have OK1 := Lib.hid (PY.out (OK.out.trans (by simp [he])))
        have hn : (ln.toList != s.toList) = false := by rw [bne, he]; rfl
        clear OK PY PN
        go_wp2_with fail
        go_ret3
        exact ⟨by rw [OK1.out]; rfl, B5.out⟩
      | false =>
        have OK1 := Lib.hid (PN.out (OK.out.trans (by simp [he])))
        have hn : (ln.toList != s.toList) = true := by rw [bne, he]; rfl
        clear OK PY PN
        go_wp2_with fail
        go_ret3
        exact ⟨by rw [OK1.out]; rfl, B5.out⟩

theorem addressof_any (x : Int) (k : Nat) (w : World) (hk : k ≤ 1000000) :
    Calls Tryd.prog 49 #[.int .u32 x, .int .i64 k] w fun e w' => e = .returned (.int .u32 ((x + 4 * k) % 4294967296)) ∧ w = w' := by
  have hE : (x + 4 * ((k : Int) % 4294967296)) % 4294967296 = (x + 4 * k) % 4294967296 := by omega
  have EH := Lib.hid hE
  clear hE
  go_enter Tryd.func49, Tryd.ntmps49
  go_wp2_with fail
  go_ret
  exact ⟨by first | (rw [← EH.out]; rfl) | (simp; omega), rfl⟩
end Go.Proofs.YtoffagmoaedkbaaDoor

/- Listing, plain: a line, by its bytes. -/
namespace Go.Proofs.YtoffagmoaedkbaaDoor
open Go.ChangeShapes Go.WideShapes Go.ChangeAt Go.RowKit
set_option linter.unusedVariables false
set_option linter.unusedSimpArgs false

theorem indexByte_ahead : ∀ (a r : List UInt8) (c : UInt8), (∀ b ∈ a, b ≠ c) → Lib.indexByte (a ++ c :: r) c = a.length
  | [], r, c, _ => by simp [Lib.indexByte]
  | b :: a, r, c, h => by
    have hb : b ≠ c := h b (by simp)
    have ih := indexByte_ahead a r c (fun x hx => h x (by simp [hx]))
    have hb2 : (b == c) = false := by simpa using hb
    simp only [List.cons_append, Lib.indexByte]
    simp [hb2, hb, ih]

theorem indexByte_none_of : ∀ (a : List UInt8) (c : UInt8), (∀ b ∈ a, b ≠ c) → Lib.indexByte a c = -1
  | [], c, _ => by simp [Lib.indexByte]
  | b :: a, c, h => by
    have hb : b ≠ c := h b (by simp)
    have ih := indexByte_none_of a c (fun x hx => h x (by simp [hx]))
    have hb2 : (b == c) = false := by simpa using hb
    simp only [Lib.indexByte]
    simp [hb2, hb, ih]

theorem cut_ahead (a r : List UInt8) (c : UInt8) (h : ∀ b ∈ a, b ≠ c) : Lib.cut (a ++ c :: r) [c] = (a, r, true) := by
  unfold Lib.cut
  rw [Lib.index_one, indexByte_ahead a r c h, if_pos (by omega)]
  simp

theorem cut_none (a : List UInt8) (c : UInt8) (h : ∀ b ∈ a, b ≠ c) : Lib.cut a [c] = (a, [], false) := by
  unfold Lib.cut
  rw [Lib.index_one, indexByte_none_of a c h, if_neg (by omega)]

theorem hexStr_no32 (n : Int) : ∀ b ∈ (hexStr n).data.toList, b ≠ (32 : UInt8) := by
  intro b hb he
  subst he
  have h1 : (32 : Int) ∈ bys (hexStr n) := by
    unfold bys
    exact List.mem_map.2 ⟨32, hb, rfl⟩
  unfold hexStr at h1
  rw [bys_nums _ (hexNums_byte n)] at h1
  unfold hexNums hexdg at h1
  simp only [List.mem_cons, List.not_mem_nil, or_false] at h1
  rcases h1 with h | h | h | h | h | h | h | h <;> (split at h <;> omega)

theorem hexOk_hex (n : Int) : hexOk (hexStr n) = true := by
  unfold hexOk
  rw [hexStr_size]
  unfold hexStr
  rw [bys_nums _ (hexNums_byte n), hexAll_hex]
  rfl

theorem hexVal_hex (n : Int) (h0 : 0 ≤ n) (h1 : n ≤ 4294967295) : hexVal (hexStr n) = n := by
  unfold hexVal
  rw [if_pos (hexOk_hex n)]
  unfold hexStr
  rw [bys_nums _ (hexNums_byte n), hexSum_hex n h0 h1]

theorem data_line (x y : Int) : (lineOf x y).data.toList = (hexStr x).data.toList ++ 32 :: ((hexStr y).data.toList ++ 32 :: (meanOf x y).data.toList) := by
  unfold lineOf
  simp [ByteArray.data_append]

theorem cutA_line (x y : Int) : cutA (lineOf x y) 32 = hexStr x := by
  unfold cutA
  rw [data_line, cut_ahead _ _ _ (hexStr_no32 x)]

theorem cutB_line (x y : Int) : cutA (cutB (lineOf x y) 32) 32 = hexStr y := by
  unfold cutA cutB
  rw [data_line, cut_ahead _ _ _ (hexStr_no32 x)]
  simp only []
  rw [cut_ahead _ _ _ (hexStr_no32 y)]

theorem line_ok (x y : Int) (hx : 0 ≤ x ∧ x ≤ 4294967295) (hy : 0 ≤ y ∧ y ≤ 4294967295) : okLine (lineOf x y) = true ∧ atOf (lineOf x y) = x ∧ wdOf (lineOf x y) = y := by
  have h1 : atOf (lineOf x y) = x := by
    unfold atOf
    rw [cutA_line, hexVal_hex x hx.1 hx.2]
  have h2 : wdOf (lineOf x y) = y := by
    unfold wdOf
    rw [cutB_line, hexVal_hex y hy.1 hy.2]
  refine ⟨?_, h1, h2⟩
  unfold okLine
  rw [h1, h2, cutA_line, cutB_line, hexOk_hex, hexOk_hex]
  simp

theorem ok_line {s : ByteArray} (h : okLine s = true) : s = lineOf (atOf s) (wdOf s) := by
  unfold okLine at h
  simp only [Bool.and_eq_true, beq_iff_eq] at h
  have := h.2.2
  rw [ByteArray.toList_eq, ByteArray.toList_eq] at this
  exact (ByteArray.ext (Array.ext' this)).symm

theorem line_size (x y : Int) : 18 ≤ (lineOf x y).size := by
  unfold lineOf
  have h2 : (⟨#[32]⟩ : ByteArray).size = 1 := rfl
  rw [ByteArray.size_append, ByteArray.size_append, ByteArray.size_append, ByteArray.size_append, hexStr_size, hexStr_size, h2]
  omega

theorem line_first (x y : Int) : (lineOf x y).extract 0 8 = hexStr x := by
  have z := hexStr_size x
  apply ByteArray.ext
  apply Array.ext'
  rw [ByteArray.data_extract, Array.toList_extract, data_line]
  have z2 : (hexStr x).data.toList.length = 8 := z
  simp [List.extract, z2]

theorem line_second (x y : Int) : (lineOf x y).extract 9 17 = hexStr y := by
  have z := hexStr_size x
  have z1 := hexStr_size y
  apply ByteArray.ext
  apply Array.ext'
  rw [ByteArray.data_extract, Array.toList_extract, data_line]
  have z2 : (hexStr x).data.toList.length = 8 := z
  have z3 : (hexStr y).data.toList.length = 8 := z1
  rw [List.extract_eq_take_drop, List.append_cons, List.drop_left' (by simp [z2])]
  exact List.take_left' (by simp [z3])

/-- What the answers ask of a line. -/
def refOk (s : ByteArray) (n : Nat) (f : Int) : Prop :=
  18 ≤ s.size ∧ hexOk (s.extract 0 8) = true ∧ hexOk (s.extract 9 17) = true ∧ s = lineOf (((if n = 0 then hexVal (s.extract 0 8) else f) + 4 * n) % 4294967296) (hexVal (s.extract 9 17))

theorem refOk_iff (s : ByteArray) (n : Nat) (f : Int) : refOk s n f ↔ (okLine s = true ∧ atOf s = ((if n = 0 then atOf s else f) + 4 * n) % 4294967296) := by
  constructor
  · rintro ⟨h1, h2, h3, h4⟩
    have hx : 0 ≤ ((if n = 0 then hexVal (s.extract 0 8) else f) + 4 * n) % 4294967296 ∧ ((if n = 0 then hexVal (s.extract 0 8) else f) + 4 * n) % 4294967296 ≤ 4294967295 := by omega
    have L := line_ok _ (hexVal (s.extract 9 17)) hx (hexVal_u32 _)
    rw [← h4] at L
    refine ⟨L.1, ?_⟩
    by_cases hn : n = 0
    · subst hn
      have := hexVal_u32 (cutA s 32)
      rw [if_pos rfl]
      unfold atOf
      omega
    · rw [if_neg hn]
      have h5 := L.2.1
      rw [if_neg hn] at h5
      exact h5
  · rintro ⟨h1, h2⟩
    have h3 := ok_line h1
    have e1 : s.extract 0 8 = hexStr (atOf s) := by
      conv => lhs; rw [h3]
      exact line_first _ _
    have e2 : s.extract 9 17 = hexStr (wdOf s) := by
      conv => lhs; rw [h3]
      exact line_second _ _
    have u1 : 0 ≤ atOf s ∧ atOf s ≤ 4294967295 := hexVal_u32 _
    have u2 : 0 ≤ wdOf s ∧ wdOf s ≤ 4294967295 := hexVal_u32 _
    refine ⟨?_, by rw [e1]; exact hexOk_hex _, by rw [e2]; exact hexOk_hex _, ?_⟩
    · rw [h3]
      exact line_size _ _
    · rw [e1, e2, hexVal_hex _ u1.1 u1.2, hexVal_hex _ u2.1 u2.2, ← h2]
      exact h3

theorem refOk_vals {s : ByteArray} (h : okLine s = true) : hexVal (s.extract 0 8) = atOf s ∧ hexVal (s.extract 9 17) = wdOf s := by
  have h3 := ok_line h
  have u1 : 0 ≤ atOf s ∧ atOf s ≤ 4294967295 := hexVal_u32 _
  have u2 : 0 ≤ wdOf s ∧ wdOf s ≤ 4294967295 := hexVal_u32 _
  constructor
  · rw [show s.extract 0 8 = hexStr (atOf s) from by conv => lhs; rw [h3]
                                                     exact line_first _ _, hexVal_hex _ u1.1 u1.2]
  · rw [show s.extract 9 17 = hexStr (wdOf s) from by conv => lhs; rw [h3]
                                                      exact line_second _ _, hexVal_hex _ u2.1 u2.2]
end Go.Proofs.YtoffagmoaedkbaaDoor

/- Package listing: Read. -/
namespace Go.Proofs.YtoffagmoaedkbaaDoor
open Go.ChangeShapes Go.WideShapes Go.ChangeAt Go.RowKit
set_option linter.unusedVariables false

theorem rowU32L : RowOf Tryd.prog 23 45 .u32 4 := rowOf_mk Tryd.underlying23 (by kernel_rfl) (by decide)

theorem cutB_lt {s : ByteArray} {c : UInt8} (h : cutF s c = true) : (cutB s c).size < s.size := by
  unfold cutF Lib.cut at h
  unfold cutB Lib.cut
  split at h
  · rename_i h0
    rw [if_pos h0]
    have h1 := Lib.index_room s.data.toList [c] h0
    show List.length _ < s.data.toList.length
    simp only [List.length_cons, List.length_nil] at h1
    simp
    simp at h1
    omega
  · cases h

/-- Lines read one by one: what comes of them; none: the line that is wrong. -/
def readFrom : Nat → ByteArray → List Int → Int → Option (Int × List Int) × Int
  | 0, _, ws, f => (some (f, ws), 0)
  | k + 1, t, ws, f =>
    if t.size = 0 then (some (f, ws), 0)
    else if okLine (cutA t 10) = true ∧ cutF t 10 = true ∧ atOf (cutA t 10) = ((if ws.length = 0 then atOf (cutA t 10) else f) + 4 * ws.length) % 4294967296 then
      readFrom k (cutB t 10) (ws ++ [wdOf (cutA t 10)]) (if ws.length = 0 then atOf (cutA t 10) else f)
    else (none, ws.length + 1)

/-- What Read leaves. -/
def ReadPost (r : Option (Int × List Int) × Int) (w : World) (e : Ending) (w' : World) : Prop :=
  ∃ f v ws, e = .returned (.tuple #[.int .u32 f, v, .int .i64 r.2, .int .i64 (if r.1.isSome then 0 else 22)]) ∧ (r.1 = some (f, ws) ∨ (r.1 = none ∧ f = 0 ∧ ws = [])) ∧ Owns .u32 45 w' w.heap.size v ws.length ws ∧ Below w.heap.size w w'

theorem read_bad {l : Int} {w w' : World} (hb : Below w.heap.size w w') {e : Ending} (he : e = .returned (.tuple #[.int .u32 0, .slice none 0 0, .int .i64 l, .int .i64 22])) : ReadPost (none, l) w e w' :=
  ⟨0, .slice none 0 0, [], he, .inr ⟨rfl, rfl, rfl⟩, Owns.nil _ _ _ _, hb⟩

theorem read_good {f : Int} {v : Value} {ws : List Int} {w w' : World} (hv : Owns .u32 45 w' w.heap.size v ws.length ws) (hb : Below w.heap.size w w') {e : Ending} (he : e = .returned (.tuple #[.int .u32 f, v, .int .i64 0, .int .i64 0])) : ReadPost (some (f, ws), 0) w e w' :=
  ⟨f, v, ws, he, .inl rfl, hv, hb⟩

theorem text_eq {t : ByteArray} (h : t.size = 0) : t.toList.isEmpty = true := by
  have : t = ⟨#[]⟩ := ByteArray.ext (Array.eq_empty_of_size_eq_zero h)
  subst this
  rw [ByteArray.toList_eq]
  rfl

theorem text_ne {t : ByteArray} (h : t.size ≠ 0) : t.toList.isEmpty = false := by
  rw [List.isEmpty_eq_false_iff]
  intro h1
  rw [ByteArray.toList_eq] at h1
  apply h
  show t.data.size = 0
  rw [← Array.length_toList, h1]
  rfl

set_option maxHeartbeats 8000000 in
set_option maxRecDepth 100000 in
theorem read_any (s : ByteArray) (w : World) (hS : ShapesIn w) (hN : NamesIn w) (hM : MaxIn w) (hs : s.size ≤ 1000000) :
    Calls Tryd.prog 25 #[.string s] w (ReadPost (readFrom (s.size + 1) s [] 0) w) := by
  have HS := Lib.hid hS
  have HN := Lib.hid hN
  have HM := Lib.hid hM
  have R0 := Lib.hid (show readFrom (s.size + 1) s [] 0 = readFrom (s.size + 1) s [] 0 from rfl)
  clear hS hN hM
  generalize hR : readFrom (s.size + 1) s [] 0 = R at R0 ⊢
  have HR := Lib.hid hR
  clear hR R0
  go_enter Tryd.func25, Tryd.ntmps25
  go_wp2_with fail
  go_loopw [0, 6, 7] (fun t0 f0 v0 wr => ∃ (t : ByteArray) (ws : List Int) (f : Int) (k : Nat), t0 = .string t ∧ f0 = .int .u32 f ∧ t.size < k ∧ t.size + ws.length ≤ s.size ∧ (0 ≤ f ∧ f ≤ 4294967295) ∧ Owns .u32 45 wr w.heap.size v0 ws.length ws ∧ Below w.heap.size w wr ∧ readFrom k t ws f = R) (fun t0 _ _ _ => match t0 with | .string t => t.size | _ => 0)
  case atStart => exact ⟨s, [], 0, s.size + 1, rfl, rfl, by omega, by simp, ⟨by decide, by decide⟩, Owns.nil _ _ _ _, Below.refl _ _, HR.out⟩
  case round =>
    obtain ⟨t, ws, f, k, rfl, rfl, htk, hts, hf, hO, hB, hr⟩ := hrel
    obtain ⟨A, cp, rfl, hnz⟩ := hO.form
    have HB := Lib.hid hB
    have HO := Lib.hid hO
    have HRR := Lib.hid hr
    have HT := Lib.hid (And.intro htk (And.intro hts hf))
    clear hB hO hr hnz HR
    cases k with
    | zero => exact absurd HT.out.1 (by omega)
    | succ k =>
      by_cases hz : t.size = 0
      · have dz := text_eq hz
        have RR : readFrom (k + 1) t ws f = (some (f, ws), 0) := by
          unfold readFrom
          rw [if_pos hz]
        have E := Lib.hid (RR.symm.trans HRR.out)
        clear RR htk hts hf
        go_wp2_with fail
        refine bodyPost_ret (v := .tuple #[.int .u32 f, .slice A ws.length cp, .int .i64 0, .int .i64 0]) ?_ rfl ?_
        · simp [results, Tryd.results25, go_sem]
        rw [← E.out]
        exact read_good HO.out HB.out rfl
      · have dz := text_ne hz
        have z1 := cutA_size t 10
        have hI : ws.length ≤ 1000000 := by omega
        have CU := Lib.hid (fun w hm => cut_any t 10 w hm (by omega))
        have PL := Lib.hid (fun w h1 h2 h3 => parseline_any (cutA t 10) w h1 h2 h3 (by omega))
        have XU := Lib.hid (hexVal_u32 (cutA (cutA t 10) 32))
        have YU := Lib.hid (hexVal_u32 (cutA (cutB (cutA t 10) 32) 32))
        have BL := Lib.hid (fun h => cutB_lt (s := t) (c := 10) h)
        have AD := Lib.hid (fun x w => addressof_any x ws.length w (by omega))
        have UN := Lib.hid (show readFrom (k + 1) t ws f = if okLine (cutA t 10) = true ∧ cutF t 10 = true ∧ atOf (cutA t 10) = ((if ws.length = 0 then atOf (cutA t 10) else f) + 4 * ws.length) % 4294967296 then readFrom k (cutB t 10) (ws ++ [wdOf (cutA t 10)]) (if ws.length = 0 then atOf (cutA t 10) else f) else (none, (ws.length : Int) + 1) from by
          conv => lhs; unfold readFrom
          rw [if_neg hz])
        have PY := Lib.hid (fun h => plineV_yes (s := cutA t 10) h)
        have PN := Lib.hid (fun h => plineV_no (s := cutA t 10) h)
        rw [show hexVal (cutA (cutA t 10) 32) = atOf (cutA t 10) from rfl] at XU
        rw [show hexVal (cutA (cutB (cutA t 10) 32) 32) = wdOf (cutA t 10) from rfl] at YU
        clear z1 htk hts hf hz
        generalize okLine (cutA t 10) = ok at *
        generalize plineV (cutA t 10) = pv at *
        generalize atOf (cutA t 10) = x at *
        generalize wdOf (cutA t 10) = y at *
        generalize cutA t 10 = la at *
        generalize cutB t 10 = lb at *
        generalize cutF t 10 = cf at *
        go_wp2_with fail
        refine (CU.out _ (HM.out.below HB.out (Nat.le_refl _))).mono ?_
        rintro e w1 ⟨rfl, hb1⟩
        have B1 := Lib.hid (HB.out.trans (hb1.mono HB.out.size))
        have O1 := Lib.hid (HO.out.below hb1)
        clear hb1 HO HB
        go_wp2_with fail
        refine (PL.out _ (HS.out.below B1.out (Nat.le_refl _)) (HN.out.below B1.out (Nat.le_refl _)) (HM.out.below B1.out (Nat.le_refl _))).mono ?_
        rintro e w2 ⟨rfl, hb2⟩
        have B2 := Lib.hid (B1.out.trans (hb2.mono B1.out.size))
        have O2 := Lib.hid (O1.out.below hb2)
        clear hb2 O1 B1
        cases ok with
        | false =>
          have E := Lib.hid ((UN.out.trans (if_neg (fun hh => by cases hh.1))).symm.trans HRR.out)
          rw [PN.out rfl]
          by_cases hw : ws.length = 0
          · have dw : ((ws.length : Int) == 0) = true := by rw [beq_iff_eq]; omega
            clear hw UN
            go_wp2_with fail
            refine bodyPost_ret (v := .tuple #[.int .u32 0, .slice none 0 0, .int .i64 ((ws.length : Int) + 1), .int .i64 22]) ?_ rfl ?_
            · simp [results, Tryd.results25, go_sem]
            rw [← E.out]
            exact read_bad B2.out rfl
          · have dw : ((ws.length : Int) == 0) = false := by rw [beq_eq_false_iff_ne]; omega
            clear hw UN
            go_wp2_with fail
            refine bodyPost_ret (v := .tuple #[.int .u32 0, .slice none 0 0, .int .i64 ((ws.length : Int) + 1), .int .i64 22]) ?_ rfl ?_
            · simp [results, Tryd.results25, go_sem]
            rw [← E.out]
            exact read_bad B2.out rfl
        | true =>
          rw [PY.out rfl]
          by_cases hw : ws.length = 0
          · have dw : ((ws.length : Int) == 0) = true := by rw [beq_iff_eq]; omega
            have UW := Lib.hid UN.out
            have FE := Lib.hid (show (if ws.length = 0 then x else f) = x from if_pos hw)
            cases cf with
            | false =>
              have E := Lib.hid ((UN.out.trans (if_neg (fun hh => by cases hh.2.1))).symm.trans HRR.out)
              clear hw UN
              go_wp2_with fail
              refine bodyPost_ret (v := .tuple #[.int .u32 0, .slice none 0 0, .int .i64 ((ws.length : Int) + 1), .int .i64 22]) ?_ rfl ?_
              · simp [results, Tryd.results25, go_sem]
              rw [← E.out]
              exact read_bad B2.out rfl
            | true =>
              have LB := Lib.hid (BL.out rfl)
              have AX := Lib.hid (AD.out x)
              by_cases hx : x = (x + 4 * ws.length) % 4294967296
              · have E := Lib.hid ((UN.out.trans (if_pos ⟨rfl, rfl, by rw [FE.out]; exact hx⟩)).symm.trans HRR.out)
                rw [FE.out] at E
                have dx : (x != (x + 4 * ws.length) % 4294967296) = false := by rw [bne_eq_false_iff_eq]; exact hx
                clear hw hx UN FE
                generalize (x + 4 * (ws.length : Int)) % 4294967296 = ax at *
                go_wp2_with fail
                refine (AX.out _).mono ?_
                rintro e w3 ⟨rfl, rfl⟩
                have NZ := Lib.hid (nums_built .u32 45 w2 [y] #[.int .u32 y] rfl 1 rfl (by decide) _ rfl)
                have OA := Lib.hid (O2.out.alloc (.cells #[.int .u32 y] 45))
                have BA := Lib.hid (B2.out.alloc B2.out.size (.cells #[.int .u32 y] 45))
                go_wp2_with (at_builtin; refine wpList_append_nums _ rfl _ _ rfl rowU32L w.heap.size (.slice A ws.length cp) ws.length ws rfl OA.out (some ⟨w2.heap.size, 0, none⟩) 1 1 [y] rfl NZ.out (by omega) (by have := BA.out.size; simpa using this) ?_; intro v4 w4 ho4 hg4 _; have O4 := Lib.hid ho4; have B4 := Lib.hid (Owns.grown_below BA.out OA.out hg4 (by have := BA.out.size; simpa using this)); clear ho4 hg4)
                go_roundw
                case rel => exact ⟨lb, ws ++ [y], x, k, rfl, rfl, by have := LB.out; have := HT.out; omega, by have := LB.out; have := HT.out; simp; omega, XU.out, by simpa using O4.out, B4.out, E.out⟩
                case measure => exact LB.out
              · have E := Lib.hid ((UN.out.trans (if_neg (fun hh => hx (by have := hh.2.2; rwa [FE.out] at this)))).symm.trans HRR.out)
                have dx : (x != (x + 4 * ws.length) % 4294967296) = true := by rw [bne_iff_ne]; exact hx
                clear hw hx UN FE
                generalize (x + 4 * (ws.length : Int)) % 4294967296 = ax at *
                go_wp2_with fail
                refine (AX.out _).mono ?_
                rintro e w3 ⟨rfl, rfl⟩
                go_wp2_with fail
                refine bodyPost_ret (v := .tuple #[.int .u32 0, .slice none 0 0, .int .i64 ((ws.length : Int) + 1), .int .i64 22]) ?_ rfl ?_
                · simp [results, Tryd.results25, go_sem]
                rw [← E.out]
                exact read_bad B2.out rfl
          · have dw : ((ws.length : Int) == 0) = false := by rw [beq_eq_false_iff_ne]; omega
            have UW := Lib.hid UN.out
            have FE := Lib.hid (show (if ws.length = 0 then x else f) = f from if_neg hw)
            cases cf with
            | false =>
              have E := Lib.hid ((UN.out.trans (if_neg (fun hh => by cases hh.2.1))).symm.trans HRR.out)
              clear hw UN
              go_wp2_with fail
              refine bodyPost_ret (v := .tuple #[.int .u32 0, .slice none 0 0, .int .i64 ((ws.length : Int) + 1), .int .i64 22]) ?_ rfl ?_
              · simp [results, Tryd.results25, go_sem]
              rw [← E.out]
              exact read_bad B2.out rfl
            | true =>
              have LB := Lib.hid (BL.out rfl)
              have AX := Lib.hid (AD.out f)
              by_cases hx : x = (f + 4 * ws.length) % 4294967296
              · have E := Lib.hid ((UN.out.trans (if_pos ⟨rfl, rfl, by rw [FE.out]; exact hx⟩)).symm.trans HRR.out)
                rw [FE.out] at E
                have dx : (x != (f + 4 * ws.length) % 4294967296) = false := by rw [bne_eq_false_iff_eq]; exact hx
                clear hw hx UN FE
                generalize (f + 4 * (ws.length : Int)) % 4294967296 = ax at *
                go_wp2_with fail
                refine (AX.out _).mono ?_
                rintro e w3 ⟨rfl, rfl⟩
                have NZ := Lib.hid (nums_built .u32 45 w2 [y] #[.int .u32 y] rfl 1 rfl (by decide) _ rfl)
                have OA := Lib.hid (O2.out.alloc (.cells #[.int .u32 y] 45))
                have BA := Lib.hid (B2.out.alloc B2.out.size (.cells #[.int .u32 y] 45))
                go_wp2_with (at_builtin; refine wpList_append_nums _ rfl _ _ rfl rowU32L w.heap.size (.slice A ws.length cp) ws.length ws rfl OA.out (some ⟨w2.heap.size, 0, none⟩) 1 1 [y] rfl NZ.out (by omega) (by have := BA.out.size; simpa using this) ?_; intro v4 w4 ho4 hg4 _; have O4 := Lib.hid ho4; have B4 := Lib.hid (Owns.grown_below BA.out OA.out hg4 (by have := BA.out.size; simpa using this)); clear ho4 hg4)
                go_roundw
                case rel => exact ⟨lb, ws ++ [y], f, k, rfl, rfl, by have := LB.out; have := HT.out; omega, by have := LB.out; have := HT.out; simp; omega, HT.out.2.2, by simpa using O4.out, B4.out, E.out⟩
                case measure => exact LB.out
              · have E := Lib.hid ((UN.out.trans (if_neg (fun hh => hx (by have := hh.2.2; rwa [FE.out] at this)))).symm.trans HRR.out)
                have dx : (x != (f + 4 * ws.length) % 4294967296) = true := by rw [bne_iff_ne]; exact hx
                clear hw hx UN FE
                generalize (f + 4 * (ws.length : Int)) % 4294967296 = ax at *
                go_wp2_with fail
                refine (AX.out _).mono ?_
                rintro e w3 ⟨rfl, rfl⟩
                go_wp2_with fail
                refine bodyPost_ret (v := .tuple #[.int .u32 0, .slice none 0 0, .int .i64 ((ws.length : Int) + 1), .int .i64 22]) ?_ rfl ?_
                · simp [results, Tryd.results25, go_sem]
                rw [← E.out]
                exact read_bad B2.out rfl
end Go.Proofs.YtoffagmoaedkbaaDoor

/- The answers' listing: Read. -/
namespace Go.Proofs.YtoffagmoaedkbaaDoor
open Go.ChangeShapes Go.WideShapes Go.ChangeAt Go.RowKit
set_option linter.unusedVariables false

/-- A text's sign. -/
def byteAt (s : ByteArray) (i : Nat) : UInt8 := s.data.toList.getD i 0

theorem idx_at (s : ByteArray) (i : Nat) (h : i < s.size) (w : World) : (Instr.index 9 (.string s) (.int .i64 (i : Int))).run Tryd.prog w = .ok (.int .u8 ((byteAt s i).toNat : Int)) w := by
  rw [run_index_string w 9 s .i64 i Tryd.underlying9, dif_pos ⟨by omega, by omega⟩]
  congr 2
  have h2 : i < s.data.toList.length := h
  unfold byteAt
  rw [List.getD_eq_getElem?_getD, List.getElem?_eq_getElem h2]
  simp
  rfl

theorem cut_piece {s : ByteArray} {p i : Nat} (h1 : p ≤ i) (h2 : i < s.size) (hn : ∀ j, p ≤ j → j < i → byteAt s j ≠ 10) (hb : byteAt s i = 10) :
    cutA (s.extract p s.size) 10 = s.extract p i ∧ cutB (s.extract p s.size) 10 = s.extract (i + 1) s.size ∧ cutF (s.extract p s.size) 10 = true := by
  have hl : i < s.data.toList.length := h2
  have hsz : s.data.toList.length = s.size := rfl
  have e1 : (s.extract p s.size).data.toList = s.data.toList.drop p := by
    rw [ByteArray.data_extract, Array.toList_extract, List.extract_eq_take_drop]
    exact List.take_of_length_le (by simp)
  have e2 : (s.extract (i + 1) s.size).data.toList = s.data.toList.drop (i + 1) := by
    rw [ByteArray.data_extract, Array.toList_extract, List.extract_eq_take_drop]
    exact List.take_of_length_le (by simp)
  have e3 : (s.extract p i).data.toList = (s.data.toList.drop p).take (i - p) := by
    rw [ByteArray.data_extract, Array.toList_extract, List.extract_eq_take_drop]
  have hb2 : s.data.toList[i] = 10 := by
    unfold byteAt at hb
    rw [List.getD_eq_getElem?_getD, List.getElem?_eq_getElem hl] at hb
    exact hb
  have e4 : s.data.toList.drop p = (s.data.toList.drop p).take (i - p) ++ 10 :: s.data.toList.drop (i + 1) := by
    conv => lhs; rw [← List.take_append_drop (i - p) (s.data.toList.drop p)]
    rw [List.drop_drop, show p + (i - p) = i by omega, List.drop_eq_getElem_cons hl, hb2]
  have hno : ∀ b ∈ (s.data.toList.drop p).take (i - p), b ≠ (10 : UInt8) := by
    intro b hm he
    obtain ⟨j, hj⟩ := List.mem_iff_getElem?.1 hm
    rw [List.getElem?_take] at hj
    split at hj
    · rename_i hlt
      rw [List.getElem?_drop] at hj
      refine hn (p + j) (by omega) (by omega) ?_
      unfold byteAt
      rw [List.getD_eq_getElem?_getD, hj, he]
      rfl
    · cases hj
  have hc := cut_ahead _ (s.data.toList.drop (i + 1)) 10 hno
  rw [← e4] at hc
  refine ⟨?_, ?_, ?_⟩
  · unfold cutA
    rw [e1, hc]
    exact ByteArray.ext (Array.ext' e3.symm)
  · unfold cutB
    rw [e1, hc]
    exact ByteArray.ext (Array.ext' e2.symm)
  · unfold cutF
    rw [e1, hc]

theorem cut_rest {s : ByteArray} {p : Nat} (hn : ∀ j, p ≤ j → j < s.size → byteAt s j ≠ 10) : cutF (s.extract p s.size) 10 = false := by
  have e1 : (s.extract p s.size).data.toList = s.data.toList.drop p := by
    rw [ByteArray.data_extract, Array.toList_extract, List.extract_eq_take_drop]
    exact List.take_of_length_le (by simp)
  have hno : ∀ b ∈ s.data.toList.drop p, b ≠ (10 : UInt8) := by
    intro b hm he
    obtain ⟨j, hj⟩ := List.mem_iff_getElem?.1 hm
    rw [List.getElem?_drop] at hj
    have hlt := (List.getElem?_eq_some_iff.1 hj).1
    refine hn (p + j) (by omega) hlt ?_
    unfold byteAt
    rw [List.getD_eq_getElem?_getD, hj, he]
    rfl
  unfold cutF
  rw [e1, cut_none _ _ hno]

theorem extract_size {s : ByteArray} {p i : Nat} (h1 : p ≤ i) (h2 : i ≤ s.size) : (s.extract p i).size = i - p := by
  rw [ByteArray.size_extract]
  omega

theorem extract_all (s : ByteArray) : s.extract 0 s.size = s := by
  apply ByteArray.ext
  apply Array.ext'
  rw [ByteArray.data_extract, Array.toList_extract, List.extract_eq_take_drop]
  exact List.take_of_length_le (Nat.le_refl _)

end Go.Proofs.YtoffagmoaedkbaaDoor

/- The laws of listing: two lists of words alike. -/
namespace Go.Proofs.YtoffagmoaedkbaaDoor
open Go.ChangeShapes Go.WideShapes Go.ChangeAt Go.RowKit
set_option linter.unusedVariables false

set_option maxHeartbeats 4000000 in
set_option maxRecDepth 100000 in
theorem words_same (A1 A2 : Option Addr) (n c1 c2 : Nat) (zs : List Int) (w : World) (h1 : Nums .u32 w A1 n zs) (h2 : Nums .u32 w A2 n zs) (hn : n ≤ 1000000) :
    Calls Tryd.prog 13 #[.slice A1 n c1, .slice A2 n c2] w fun e w' => e = .returned (.bool true) ∧ Below w.heap.size w w' := by
  have H1 := Lib.hid h1
  have H2 := Lib.hid h2
  clear h1 h2
  go_enter Tryd.func13, Tryd.ntmps13
  go_wp2_with fail
  go_loopw [5] (fun i wr => ∃ t q : Nat, t ≤ n ∧ i = .int .i64 t ∧ wr = w.drewN q) (fun i _ => n - (intOf i).toNat)
  case atStart => exact ⟨0, 0, Nat.zero_le _, rfl, rfl⟩
  case round =>
    obtain ⟨t, q, ht, rfl, rfl⟩ := hrel
    by_cases hlt : t < n
    · have hI : (t : Int) < n := by omega
      obtain ⟨ba, oa, rfl, _, ha⟩ := H1.out.2 (by omega)
      obtain ⟨bb, ob, rfl, _, hb⟩ := H2.out.2 (by omega)
      have u0 := ha t hlt
      have v0 := hb t hlt
      clear ha hb
      generalize zs.getD t 0 = z at *
      go_wp2_with fail
      go_quiet (fail)
      go_wp2_with fail
      go_roundw
      case rel => exact ⟨t + 1, _, by omega, by go_num, rfl⟩
      case measure => simp [intOf]; omega
    · have hI : ¬ (t : Int) < n := by omega
      go_wp2_with fail
      go_ret
      exact ⟨rfl, below_drawn (Below.refl _ _) q⟩

/-- Two readings that are one. -/
theorem read_same {r : Option (Int × List Int) × Int} {f1 f2 : Int} {z1 z2 : List Int} (h1 : r.1 = some (f1, z1) ∨ (r.1 = none ∧ f1 = 0 ∧ z1 = [])) (h2 : r.1 = some (f2, z2) ∨ (r.1 = none ∧ f2 = 0 ∧ z2 = [])) : f1 = f2 ∧ z1 = z2 := by
  rcases h1 with h1 | ⟨h1, rfl, rfl⟩ <;> rcases h2 with h2 | ⟨h2, rfl, rfl⟩
  · have := h1.symm.trans h2
    simp at this
    exact this
  · have := h1.symm.trans h2
    cases this
  · have := h1.symm.trans h2
    cases this
  · exact ⟨rfl, rfl⟩

theorem readFrom_len (k : Nat) : ∀ (t : ByteArray) (ws : List Int) (f : Int) (g : Int) (zs : List Int), (readFrom k t ws f).1 = some (g, zs) → zs.length ≤ ws.length + k := by
  induction k with
  | zero =>
    intro t ws f g zs h
    simp [readFrom] at h
    rw [h.2]
    omega
  | succ k ih =>
    intro t ws f g zs h
    unfold readFrom at h
    by_cases hz : t.size = 0
    · rw [if_pos hz] at h
      simp at h
      rw [h.2]
      omega
    · rw [if_neg hz] at h
      by_cases hc : okLine (cutA t 10) = true ∧ cutF t 10 = true ∧ atOf (cutA t 10) = ((if ws.length = 0 then atOf (cutA t 10) else f) + 4 * ws.length) % 4294967296
      · rw [if_pos hc] at h
        have := ih _ _ _ _ _ h
        simp at this
        omega
      · rw [if_neg hc] at h
        cases h
end Go.Proofs.YtoffagmoaedkbaaDoor
