/- Contracts of package word's digits: digitOf, ParseHex. -/
import Derived.Test.YtbkagnhficmdhaaDoorWordB
import Derived.Lib.Bytealg
import Derived.Lib.Strings
import Derived.Deep.QuietTactic
import Derived.BigQuiet
namespace Go.Proofs.YtbkagnhficmdhaaDoor
open Go.ChangeShapes Go.WideShapes Go.ChangeAt Go.RowKit
set_option linter.unusedVariables false

/-- The digit that a sign is, or -1. -/
def hexval (c : Int) : Int := if 48 ≤ c ∧ c ≤ 57 then c - 48 else if 97 ≤ c ∧ c ≤ 102 then c - 87 else -1

theorem hexval_ge (c : Int) : -1 ≤ hexval c ∧ hexval c ≤ 15 := by unfold hexval; split <;> (try split) <;> omega

theorem indexByte_digits (c : Nat) (h : c < 256) : Lib.indexByte digits16.data.toList c.toUInt8 = hexval c := by
  have : ∀ n : Fin 256, Lib.indexByte digits16.data.toList n.val.toUInt8 = hexval n.val := by decide +kernel
  exact this ⟨c, h⟩

set_option maxHeartbeats 400000 in
set_option maxRecDepth 100000 in
theorem digitOf_any (c : Int) (w : World) (h0 : 0 ≤ c) (h1 : c ≤ 255) :
    Calls Tryd.prog 57 #[.int .u8 c] w fun e w' => e = .returned (.int .i64 (hexval c)) ∧ w = w' := by
  go_enter Tryd.func57, Tryd.ntmps57
  go_wp2
  rw [run_callFunc_extern Tryd.func80 (by kernel_rfl) (by kernel_rfl) (by kernel_rfl) (e := Extern.BytealgIndexByte.indexByte) (by kernel_rfl), Lib.run_indexByteString]
  simp only [Result.andThen]
  rw [Oper.upon_value]
  go_wp2
  go_ret
  refine ⟨?_, rfl⟩
  have := indexByte_digits c.toNat (by omega)
  rw [show ((c.toNat : Nat) : Int) = c by omega] at this
  rw [← this]
  rfl

/-- A string's bytes, as numbers. -/
def bys (s : ByteArray) : List Int := s.data.toList.map fun b => (b.toNat : Int)

theorem bys_length (s : ByteArray) : (bys s).length = s.size := by simp [bys]

theorem bys_snoc (s : ByteArray) (k : Nat) (h : k < s.size) : (bys s).take (k + 1) = (bys s).take k ++ [(s[k].toNat : Int)] := by
  rw [List.take_succ_eq_append_getElem (by simpa [bys] using h)]
  simp only [bys, List.getElem_map]
  rfl

theorem byte_le (b : UInt8) : (b.toNat : Int) ≤ 255 := by have := b.toNat_lt; omega

/-- The word that the digits are; all digits? -/
def hexSum (l : List Int) : Int := l.foldl (fun w c => w * 16 + hexval c) 0

def hexAll (l : List Int) : Bool := l.all fun c => decide (0 ≤ hexval c)

theorem hexSum_snoc (l : List Int) (c : Int) : hexSum (l ++ [c]) = hexSum l * 16 + hexval c := by simp [hexSum]

theorem hexAll_snoc (l : List Int) (c : Int) : hexAll (l ++ [c]) = (hexAll l && decide (0 ≤ hexval c)) := by simp [hexAll]

theorem hexSum_aux : ∀ (l : List Int) (a : Int) (m : Nat), hexAll l = true → 0 ≤ a → a < 16 ^ m → 0 ≤ l.foldl (fun w c => w * 16 + hexval c) a ∧ l.foldl (fun w c => w * 16 + hexval c) a < 16 ^ (m + l.length)
  | [], a, m, _, h0, h1 => ⟨h0, h1⟩
  | c :: l, a, m, h, h0, h1 => by
    simp only [hexAll, List.all_cons, Bool.and_eq_true, decide_eq_true_eq] at h
    have hc := hexval_ge c
    have := hexSum_aux l (a * 16 + hexval c) (m + 1) h.2 (by omega) (by rw [Int.pow_succ]; omega)
    rw [List.foldl_cons, List.length_cons, show m + (l.length + 1) = m + 1 + l.length by omega]
    exact this

theorem hexSum_bound (l : List Int) (h : hexAll l = true) : 0 ≤ hexSum l ∧ hexSum l < 16 ^ l.length := by
  have := hexSum_aux l 0 0 h (by decide) (by decide)
  rwa [Nat.zero_add] at this

theorem hexAll_false {l : List Int} {k : Nat} (h : hexAll (l.take k) = false) : hexAll l = false := by
  cases hl : hexAll l with
  | false => rfl
  | true =>
    unfold hexAll at h hl
    rw [List.all_eq_true] at hl
    have : (l.take k).all (fun c => decide (0 ≤ hexval c)) = true := List.all_eq_true.2 fun c hc => hl c (List.mem_of_mem_take hc)
    rw [this] at h; cases h

theorem pow16_le (k : Nat) (h : k ≤ 7) : (16 : Int) ^ k ≤ 268435456 := by
  have h2 : 16 ^ k ≤ 268435456 := Nat.le_trans (Nat.pow_le_pow_right (n := 16) (by decide) h) (by decide)
  have h3 : ((16 ^ k : Nat) : Int) ≤ 268435456 := by omega
  rwa [Int.natCast_pow] at h3

/-- What is answered for eight signs. -/
def hexRes (l : List Int) : Value := if hexAll l = true then .tuple #[.int .u32 (hexSum l), .bool true] else .tuple #[.int .u32 0, .bool false]

theorem hexRes_yes {l : List Int} (h : hexAll l = true) : hexRes l = .tuple #[.int .u32 (hexSum l), .bool true] := if_pos h

theorem hexRes_no {l : List Int} (h : hexAll l = false) : hexRes l = .tuple #[.int .u32 0, .bool false] := if_neg (by rw [h]; decide)

theorem ret_val {a b : Value} (h : a = b) : Ending.returned a = .returned b := by rw [h]

theorem ret_u32b {a b : Int} {c : Bool} (h : a = b) : Ending.returned (.tuple #[.int .u32 a, .bool c]) = .returned (.tuple #[.int .u32 b, .bool c]) := by rw [h]

theorem or_digit (a d : Int) (ha : 0 ≤ a) (ha1 : a < 268435456) (hd : 0 ≤ d) (hd1 : d < 16) : bits .or .u32 (a * 16) d = a * 16 + d :=
  bits_join .u32 32 (by decide) (fun n h0 h1 => by rw [IntKind.wrap_u32]; omega) 4 (a * 16) d (by omega) (by omega) (by omega) hd (by omega) (by omega)

set_option maxHeartbeats 400000 in
set_option maxRecDepth 100000 in
theorem parsehex_short (s : ByteArray) (w : World) (h : s.size ≠ 8) (hm : s.size ≤ maxLen) :
    Calls Tryd.prog 47 #[.string s] w fun e w' => e = .returned (.tuple #[.int .u32 0, .bool false]) ∧ w = w' := by
  unfold maxLen at hm
  have hne : ((s.size : Int) != 8) = true := by simp; omega
  go_enter Tryd.func47, Tryd.ntmps47
  go_wp2
  go_ret2
  exact ⟨rfl, rfl⟩

set_option maxHeartbeats 800000 in
set_option maxRecDepth 100000 in
theorem parsehex_any (s : ByteArray) (w : World) (h : s.size = 8) :
    Calls Tryd.prog 47 #[.string s] w fun e w' => e = .returned (hexRes (bys s)) ∧ w = w' := by
  have hne : ((s.size : Int) != 8) = false := by simp; omega
  have HS := Lib.hid h
  have hs1 : s.size ≤ 8 := by omega
  clear h
  go_enter Tryd.func47, Tryd.ntmps47
  go_wp2
  go_loop [4, 12] (fun v i => ∃ k : Nat, k ≤ s.size ∧ i = .int .i64 k ∧ v = .int .u32 (hexSum ((bys s).take k)) ∧ Hid (hexAll ((bys s).take k) = true)) (fun _ i => s.size - (intOf i).toNat)
  case atStart => exact ⟨0, Nat.zero_le _, rfl, rfl, rfl⟩
  case round =>
    obtain ⟨k, hk, rfl, rfl, HA⟩ := hrel
    by_cases hlt : k < s.size
    · have hb0 := byte_le s[k]
      have hb1 : (0 : Int) ≤ (s[k].toNat : Int) := by omega
      obtain ⟨g0, g1⟩ := hexval_ge (s[k].toNat : Int)
      obtain ⟨b0, b1⟩ := hexSum_bound _ HA.out
      have b2 : hexSum ((bys s).take k) < 268435456 := by
        have := pow16_le k (by omega)
        have h3 : ((bys s).take k).length = k := by simp [bys_length]; omega
        rw [h3] at b1
        omega
      clear b1
      have HSN := Lib.hid (bys_snoc s k hlt)
      by_cases hd : 0 ≤ hexval (s[k].toNat : Int)
      · have hor := or_digit (hexSum ((bys s).take k)) (hexval (s[k].toNat : Int)) b0 b2 hd (by omega)
        have HX := Lib.hid (show hexSum ((bys s).take (k + 1)) = hexSum ((bys s).take k) * 16 + hexval (s[k].toNat : Int) by rw [HSN.out, hexSum_snoc])
        have HY := Lib.hid (show hexAll ((bys s).take (k + 1)) = true by rw [HSN.out, hexAll_snoc, HA.out]; simpa using hd)
        go_wp2_with (go_at_call 57; refine (digitOf_any _ _ hb1 hb0).mono ?_; rintro e w' ⟨rfl, rfl⟩)
        go_round
        case rel => exact ⟨k + 1, by omega, by go_num, by rw [HX.out], HY⟩
        case measure => simp [intOf]; omega
      · have HN := Lib.hid (show hexAll (bys s) = false from hexAll_false (k := k + 1) (by rw [HSN.out, hexAll_snoc]; simp [hd]))
        go_wp2_with (go_at_call 57; refine (digitOf_any _ _ hb1 hb0).mono ?_; rintro e w' ⟨rfl, rfl⟩)
        go_ret2
        exact ⟨ret_val (hexRes_no HN.out).symm, rfl⟩
    · have HT := Lib.hid (show (bys s).take k = bys s from List.take_of_length_le (by rw [bys_length]; omega))
      go_wp2
      go_ret2
      have h1 := HA.out
      rw [HT.out] at h1
      exact ⟨ret_val (by rw [hexRes_yes h1]; show Value.tuple #[.int .u32 (hexSum ((bys s).take k)), .bool true] = _; rw [HT.out]), rfl⟩

/-! ### The answers' ParseHex -/
/-- What the inner loop has found by round k. -/
def found (c : Int) (k : Nat) : Int := if hexval c < k then hexval c else -1

theorem found_zero (c : Int) : found c 0 = -1 := by have := hexval_ge c; unfold found; split <;> omega

theorem found_end (c : Int) : found c 16 = hexval c := by have := hexval_ge c; unfold found; rw [if_pos (by omega)]

theorem hexdg_hexval (c : Int) (k : Nat) (h0 : 0 ≤ c) (h1 : c ≤ 255) (hk : k < 16) : hexdg (k : Int) = c ↔ hexval c = k := by
  unfold hexdg hexval
  constructor
  · intro h
    subst h
    split <;> split <;> (try split) <;> omega
  · intro h
    split <;> split at h <;> (try split at h) <;> omega

theorem found_hit (c : Int) (k : Nat) (h : hexval c = k) : found c (k + 1) = k := by unfold found; rw [if_pos (by omega), h]

theorem found_miss (c : Int) (k : Nat) (h : hexval c ≠ k) : found c (k + 1) = found c k := by
  unfold found
  by_cases h2 : hexval c < k
  · rw [if_pos (by omega), if_pos h2]
  · rw [if_neg (by omega), if_neg h2]

end Go.Proofs.YtbkagnhficmdhaaDoor