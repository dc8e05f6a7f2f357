/- Contracts of package word's Text and the answers' Text. -/
import Derived.Test.YtmgjnalijmplcaaWordB
import Derived.Test.YtmgjnalijmplcaaTextPlain
import Derived.Test.YtmgjnalijmplcaaBlocks
import Derived.Test.YtmgjnalijmplcaaSlices
namespace Go.Proofs.Ytmgjnalijmplcaa
open Go.ChangeShapes Go.WideShapes Go.ChangeAt Go.RowKit
set_option linter.unusedVariables false

/-- The last places of the buffer hold these signs. -/
def Tail (cs : Array Value) (f : Nat) (zs : List Int) : Prop := cs.size = 20 ∧ zs.length + f = 20 ∧ ∀ j, j < zs.length → cs[f + j]? = some (.int .u8 (zs.getD j 0))

theorem Tail.step {cs : Array Value} {f : Nat} {zs : List Int} (h : Tail cs (f + 1) zs) (d : Int) : Tail (cs.setIfInBounds f (.int .u8 d)) f (d :: zs) := by
  obtain ⟨h1, h2, h3⟩ := h
  refine ⟨by simpa using h1, by simp only [List.length_cons]; omega, fun j hj => ?_⟩
  rcases j with _ | j
  · rw [Array.getElem?_setIfInBounds, if_pos (by omega), if_pos (by omega)]
    rfl
  · have := h3 j (by simpa using hj)
    rw [Array.getElem?_setIfInBounds, if_neg (by omega), show f + (j + 1) = f + 1 + j by omega, this]
    simp [List.getD]

theorem Tail.place {cs : Array Value} {f : Nat} {zs : List Int} (h : Tail cs f zs) {i : Nat} (hi : i < 20) : ∃ v, cs[i]? = some v := ⟨cs[i]'(by have := h.1; omega), by simp⟩

/-- A number as it stands in 64 bits without a sign. -/
def unsigned (n : Int) : Int := IntKind.u64.wrap n

theorem unsigned_neg (n : Int) (h0 : n < 0) (h1 : -9223372036854775808 ≤ n) : IntKind.u64.wrap (-(unsigned n)) = -n := by
  unfold unsigned
  rw [IntKind.wrap_u64, IntKind.wrap_u64]
  omega

theorem unsigned_pos (n : Int) (h0 : 0 ≤ n) (h1 : n ≤ 9223372036854775807) : unsigned n = n := by
  unfold unsigned
  rw [IntKind.wrap_u64]
  omega

theorem rowU8' : RowOf Try.prog 54 5 .u8 1 := rowOf_mk Try.underlying54 (by kernel_rfl) (by decide)

theorem slice_from (g f : Nat) (hf : f < 20) (W : World) : (Instr.sliceAt 57 (.pointer (some ⟨g, 0, none⟩)) (some (.int .i64 (f : Int))) none none).run Try.prog W = .ok (.slice (some ⟨g, f, none⟩) (20 - f) (20 - f)) W := by
  have ht := Try.underlying57
  have hl : Try.prog.arrayLen 57 = 20 := by simp [Program.arrayLen, ht]
  have he : Try.prog.elem 57 = 5 := by simp [Program.elem, ht]
  rw [run_sliceAt_array_l W 57 ⟨g, 0, none⟩ (by rw [hl, he]; exact ht) .i64 (f : Int) (by omega) (by rw [hl]; omega), he, hl]
  obtain ⟨i, hi, _, hs, _⟩ := rowU8'.some_
  have hz : (sizeOf 5).run Try.prog W = .ok 1 W := by simp [sizeOf, typeInfo, hi, hs]
  rw [hz]
  simp only [Result.andThen, slicedAt, Int.toNat_natCast, Nat.mul_one]
  rw [if_neg (by omega), Go.WideShapes.add_plain, Nat.zero_add]

theorem ret_str {a b : List Int} (h : a = b) : Ending.returned (.string (strOfNums a)) = .returned (.string (strOfNums b)) := by rw [h]

set_option maxHeartbeats 2000000 in
set_option maxRecDepth 100000 in
theorem text_pos (n : Int) (w : World) (h0 : 0 ≤ n) (h1 : n ≤ 9223372036854775807) :
    Calls Try.prog 30 #[.int .i64 n] w fun e w' => e = .returned (.string (strOfNums (textNums n))) ∧ Below w.heap.size w w' := by
  go_enter Try.func30, Try.ntmps30
  go_wp2
  go_loopw [4, 5] (fun r p wr => ∃ (f m : Nat) (zs : List Int) (cs : Array Value), p = .int .i64 ((f + 1 : Nat) : Int) ∧ r = .int .u64 m ∧ 1 ≤ f ∧ f ≤ 19 ∧ m ≤ 9223372036854775808 ∧ Hid (m < 10 ^ f) ∧ Hid (decF 20 n.natAbs = decF (f + 1) m ++ zs) ∧ Hid (Tail cs (f + 1) zs) ∧ Hid (Whole wr w.heap.size 57 cs) ∧ Below w.heap.size w wr) (fun r _ _ => (intOf r).toNat)
  case atStart => exact ⟨19, n.natAbs, [], _, rfl, by rw [show ((n.natAbs : Nat) : Int) = n by omega], by omega, by omega, by omega, by show n.natAbs < 10 ^ 19; omega, by show _ = _ ++ []; rw [List.append_nil], ⟨rfl, rfl, fun j hj => by cases hj⟩, Whole.made _ _ _ _ rfl, (Below.refl _ _).alloc (Nat.le_refl _) _⟩
  case round =>
    obtain ⟨f, m, zs, cs, rfl, rfl, hf0, hf1, hmx, HM, HD, HT, HW, hbr⟩ := hrel
    obtain ⟨v0, hv0⟩ := HT.out.place (i := f) (by omega)
    have hcell := (HW.out.cell f).trans hv0
    have hfree := HW.out.free f
    have hik := fun W : World => index_digit (P := Try.prog) 9 .u64 Try.underlying9 ((m : Int) % 10) (by omega) (by omega) W
    unfold digits16 at hik
    rw [show hexdg ((m : Int) % 10) = 48 + (m : Int) % 10 by unfold hexdg; rw [if_pos (by omega)]] at hik
    have HT2 := Lib.hid (Tail.step (f := f) HT.out (48 + (m : Int) % 10))
    have HW2 := Lib.hid (HW.out.store f (.int .u8 (48 + (m : Int) % 10)))
    have hbr2 := hbr.setCell (p := ⟨w.heap.size, f, none⟩) (Nat.le_refl _) (.int .u8 (48 + (m : Int) % 10))
    clear hv0
    by_cases hm : m < 10
    · have he : ((m : Int) / 10 == 0) = true := beq_iff_eq.2 (by omega)
      have hsl := slice_from w.heap.size f (by omega)
      go_wp2
      rw [run_convert_bytes_arg _ 54 5 Try.underlying54 Try.underlying5 w.heap.size f (20 - f) (20 - f) ((48 + (m : Int) % 10) :: zs) (by have := HT2.out.2.1; omega)
        (fun i hi => by rw [HW2.out.cell (f + i)]; exact HT2.out.2.2 i (by have := HT2.out.2.1; omega)) 9 Try.underlying9]
      go_wp2
      go_ret
      refine ⟨ret_str ?_, hbr2⟩
      unfold textNums
      rw [if_neg (by omega), HD.out, decF_last f m hm, show (m : Int) % 10 = m by omega]
      rfl
    · have he : ((m : Int) / 10 == 0) = false := beq_eq_false_iff_ne.2 (by omega)
      have hf2 : 2 ≤ f := by
        rcases (show f = 1 ∨ 2 ≤ f by omega) with h | h
        · subst h; have := HM.out; omega
        · exact h
      obtain ⟨f, rfl⟩ : ∃ f', f = f' + 1 := ⟨f - 1, by omega⟩
      go_wp2
      go_roundw
      case rel => exact ⟨f, m / 10, _, _, by go_num, by rw [Int.natCast_ediv]; rfl, by omega, by omega, by omega, by have := HM.out; show _ < _; rw [Nat.pow_succ] at this; omega,
        by have h1 := HD.out; rw [decF_more (f + 1) m hm, List.append_assoc, Int.natCast_emod] at h1; exact h1, HT2, HW2, hbr2⟩
      case measure => simp [intOf]; omega

set_option maxHeartbeats 2000000 in
set_option maxRecDepth 100000 in
theorem text_neg (n : Int) (w : World) (h0 : n < 0) (h1 : -9223372036854775808 ≤ n) :
    Calls Try.prog 30 #[.int .i64 n] w fun e w' => e = .returned (.string (strOfNums (textNums n))) ∧ Below w.heap.size w w' := by
  have e2 := unsigned_neg n h0 h1
  have e1 : IntKind.u64.wrap n = unsigned n := rfl
  go_enter Try.func30, Try.ntmps30
  go_wp2
  go_loopw [4, 5] (fun r p wr => ∃ (f m : Nat) (zs : List Int) (cs : Array Value), p = .int .i64 ((f + 1 : Nat) : Int) ∧ r = .int .u64 m ∧ 1 ≤ f ∧ f ≤ 19 ∧ m ≤ 9223372036854775808 ∧ Hid (m < 10 ^ f) ∧ Hid (decF 20 n.natAbs = decF (f + 1) m ++ zs) ∧ Hid (Tail cs (f + 1) zs) ∧ Hid (Whole wr w.heap.size 57 cs) ∧ Below w.heap.size w wr) (fun r _ _ => (intOf r).toNat)
  case atStart => exact ⟨19, n.natAbs, [], _, rfl, by rw [show ((n.natAbs : Nat) : Int) = -n by omega], by omega, by omega, by omega, by show n.natAbs < 10 ^ 19; omega, by show _ = _ ++ []; rw [List.append_nil], ⟨rfl, rfl, fun j hj => by cases hj⟩, Whole.made _ _ _ _ rfl, (Below.refl _ _).alloc (Nat.le_refl _) _⟩
  case round =>
    obtain ⟨f, m, zs, cs, rfl, rfl, hf0, hf1, hmx, HM, HD, HT, HW, hbr⟩ := hrel
    obtain ⟨v0, hv0⟩ := HT.out.place (i := f) (by omega)
    have hcell := (HW.out.cell f).trans hv0
    have hfree := HW.out.free f
    have hik := fun W : World => index_digit (P := Try.prog) 9 .u64 Try.underlying9 ((m : Int) % 10) (by omega) (by omega) W
    unfold digits16 at hik
    rw [show hexdg ((m : Int) % 10) = 48 + (m : Int) % 10 by unfold hexdg; rw [if_pos (by omega)]] at hik
    have HT2 := Lib.hid (Tail.step (f := f) HT.out (48 + (m : Int) % 10))
    have HW2 := Lib.hid (HW.out.store f (.int .u8 (48 + (m : Int) % 10)))
    have hbr2 := hbr.setCell (p := ⟨w.heap.size, f, none⟩) (Nat.le_refl _) (.int .u8 (48 + (m : Int) % 10))
    clear hv0
    by_cases hm : m < 10
    · have he : ((m : Int) / 10 == 0) = true := beq_iff_eq.2 (by omega)
      obtain ⟨f, rfl⟩ : ∃ f', f = f' + 1 := ⟨f - 1, by omega⟩
      obtain ⟨v1, hv1⟩ := HT2.out.place (i := f) (by omega)
      have hcell1 := (HW2.out.cell f).trans hv1
      have hfree1 := HW2.out.free f
      have HT3 := Lib.hid (Tail.step (f := f) HT2.out 45)
      have HW3 := Lib.hid (HW2.out.store f (.int .u8 45))
      have hbr3 := hbr2.setCell (p := ⟨w.heap.size, f, none⟩) (Nat.le_refl _) (.int .u8 45)
      clear hv1
      have hsl := slice_from w.heap.size f (by omega)
      go_wp2
      rw [run_convert_bytes_arg _ 54 5 Try.underlying54 Try.underlying5 w.heap.size f (20 - f) (20 - f) (45 :: (48 + (m : Int) % 10) :: zs) (by have := HT3.out.2.1; omega)
        (fun i hi => by rw [HW3.out.cell (f + i)]; exact HT3.out.2.2 i (by have := HT3.out.2.1; omega)) 9 Try.underlying9]
      go_wp2
      go_ret
      refine ⟨ret_str ?_, hbr3⟩
      unfold textNums
      rw [if_pos (by omega), HD.out, decF_last (f + 1) m hm, show (m : Int) % 10 = m by omega]
      rfl
    · have he : ((m : Int) / 10 == 0) = false := beq_eq_false_iff_ne.2 (by omega)
      have hf2 : 2 ≤ f := by
        rcases (show f = 1 ∨ 2 ≤ f by omega) with h | h
        · subst h; have := HM.out; omega
        · exact h
      obtain ⟨f, rfl⟩ : ∃ f', f = f' + 1 := ⟨f - 1, by omega⟩
      go_wp2
      go_roundw
      case rel => exact ⟨f, m / 10, _, _, by go_num, by rw [Int.natCast_ediv]; rfl, by omega, by omega, by omega, by have := HM.out; show _ < _; rw [Nat.pow_succ] at this; omega,
        by have h1 := HD.out; rw [decF_more (f + 1) m hm, List.append_assoc, Int.natCast_emod] at h1; exact h1, HT2, HW2, hbr2⟩
      case measure => simp [intOf]; omega

theorem text_any (n : Int) (w : World) (h0 : -9223372036854775808 ≤ n) (h1 : n ≤ 9223372036854775807) :
    Calls Try.prog 30 #[.int .i64 n] w fun e w' => e = .returned (.string (strOfNums (textNums n))) ∧ Below w.heap.size w w' := by
  rcases (show n < 0 ∨ 0 ≤ n by omega) with h | h
  · exact text_neg n w h h0
  · exact text_pos n w h h1

theorem one_byte (w : World) (x : Int) (t : TypeId) (g : Nat) (hg : g = w.heap.size) : ∀ i, i < 1 → (w.alloc (.cells #[.int .u8 x] t)).cell? ⟨g, 0 + i, none⟩ = some (.int .u8 ([x].getD i 0)) := by
  intro i hi
  obtain rfl : i = 0 := by omega
  subst hg
  simp [go_sem]

theorem str_app (a b : List Int) : strOfNums a ++ strOfNums b = strOfNums (a ++ b) := by
  apply ByteArray.ext
  simp [strOfNums]

theorem str_cons (a : Int) (b : List Int) : strOfNums [a] ++ strOfNums b = strOfNums (a :: b) := str_app [a] b

set_option maxHeartbeats 2000000 in
set_option maxRecDepth 100000 in
theorem reftext_pos (n : Int) (w : World) (h0 : 0 ≤ n) (h1 : n ≤ 9223372036854775807) :
    Calls Try.prog 32 #[.int .i64 n] w fun e w' => e = .returned (.string (strOfNums (textNums n))) ∧ Below w.heap.size w w' := by
  go_enter Try.func32, Try.ntmps32
  go_wp2
  go_loopw [3, 4] (fun v r wr => ∃ (f m : Nat) (zs : List Int), v = .string (strOfNums zs) ∧ r = .int .i64 (m : Int) ∧ m ≤ 9223372036854775807 ∧ Hid (m < 10 ^ (f + 1) ∧ f ≤ 19 ∧ zs.length + f = 19) ∧ Hid (decF 20 n.natAbs = decF (f + 1) m ++ zs) ∧ Below w.heap.size w wr) (fun _ r _ => (intOf r).natAbs)
  case atStart => exact ⟨19, n.natAbs, [], rfl, by rw [show ((n.natAbs : Nat) : Int) = n by omega], by omega, ⟨by omega, by omega, rfl⟩, by show _ = _ ++ []; rw [List.append_nil], Below.refl _ _⟩
  case round =>
    obtain ⟨f, m, zs, rfl, rfl, hmx, HM, HD, hbr⟩ := hrel
    have happ := str_cons (48 + (m : Int) % 10) zs
    have hsz : (strOfNums [48 + (m : Int) % 10]).size + (strOfNums zs).size ≤ 20 := by have := HM.out.2.2; rw [strOfNums_size, strOfNums_size, List.length_singleton]; omega
    by_cases hm : m < 10
    · have he : ((m : Int) / 10 == 0) = true := beq_iff_eq.2 (by omega)
      go_wp2
      rw [run_convert_bytes_arg _ 54 5 Try.underlying54 Try.underlying5 wr.heap.size 0 1 1 [48 + (m : Int) % 10] rfl (one_byte _ _ _ _ rfl) 9 Try.underlying9]
      go_wp2
      go_ret
      refine ⟨ret_str ?_, hbr.alloc hbr.size _⟩
      unfold textNums
      rw [if_neg (by omega), HD.out, decF_last f m hm, show (m : Int) % 10 = m by omega]
      rfl
    · have he : ((m : Int) / 10 == 0) = false := beq_eq_false_iff_ne.2 (by omega)
      have hf : 1 ≤ f := by
        rcases Nat.eq_zero_or_pos f with h | h
        · subst h; have := HM.out.1; omega
        · exact h
      go_wp2
      rw [run_convert_bytes_arg _ 54 5 Try.underlying54 Try.underlying5 wr.heap.size 0 1 1 [48 + (m : Int) % 10] rfl (one_byte _ _ _ _ rfl) 9 Try.underlying9]
      go_wp2
      go_roundw
      case rel =>
        obtain ⟨f, rfl⟩ : ∃ f', f = f' + 1 := ⟨f - 1, by omega⟩
        refine ⟨f, m / 10, _, rfl, by rw [Int.natCast_ediv]; rfl, by omega, ⟨?_, by have := HM.out.2.1; omega, by have := HM.out.2.2; simp only [List.length_cons]; omega⟩, ?_, hbr.alloc hbr.size _⟩
        · have := HM.out.1
          rw [Nat.pow_succ] at this
          omega
        · have h1 := HD.out
          rw [decF_more (f + 1) m hm, List.append_assoc, Int.natCast_emod] at h1
          exact h1
      case measure => simp [intOf]; omega

theorem str_minus (b : List Int) : (⟨#[45]⟩ : ByteArray) ++ strOfNums b = strOfNums (45 :: b) := str_cons 45 b

set_option maxHeartbeats 2000000 in
set_option maxRecDepth 100000 in
theorem reftext_neg (n : Int) (w : World) (h0 : n < 0) (h1 : -9223372036854775808 ≤ n) :
    Calls Try.prog 32 #[.int .i64 n] w fun e w' => e = .returned (.string (strOfNums (textNums n))) ∧ Below w.heap.size w w' := by
  go_enter Try.func32, Try.ntmps32
  go_wp2
  go_loopw [3, 4] (fun v r wr => ∃ (f m : Nat) (zs : List Int), v = .string (strOfNums zs) ∧ r = .int .i64 (-(m : Int)) ∧ m ≤ 9223372036854775808 ∧ Hid (m < 10 ^ (f + 1) ∧ f ≤ 19 ∧ zs.length + f = 19) ∧ Hid (decF 20 n.natAbs = decF (f + 1) m ++ zs) ∧ Below w.heap.size w wr) (fun _ r _ => (intOf r).natAbs)
  case atStart => exact ⟨19, n.natAbs, [], rfl, by rw [show (-((n.natAbs : Nat) : Int)) = n by omega], by omega, ⟨by omega, by omega, rfl⟩, by show _ = _ ++ []; rw [List.append_nil], Below.refl _ _⟩
  case round =>
    obtain ⟨f, m, zs, rfl, rfl, hmx, HM, HD, hbr⟩ := hrel
    rcases (show 0 < (m : Int) % 10 ∨ (m : Int) % 10 ≤ 0 by omega) with hd | hd
    · have happ := str_cons (48 + (m : Int) % 10) zs
      have hsz : (strOfNums [48 + (m : Int) % 10]).size + (strOfNums zs).size ≤ 20 := by have := HM.out.2.2; rw [strOfNums_size, strOfNums_size, List.length_singleton]; omega
      have happ2 := str_minus ((48 + (m : Int) % 10) :: zs)
      have hsz2 : (⟨#[45]⟩ : ByteArray).size + (strOfNums ((48 + (m : Int) % 10) :: zs)).size ≤ 21 := by have := HM.out.2.2; rw [strOfNums_size, List.length_cons]; show 1 + _ ≤ _; omega
      by_cases hm : m < 10
      · have he : (-((m : Int) / 10) == 0) = true := beq_iff_eq.2 (by omega)
        go_wp2
        rw [run_convert_bytes_arg _ 54 5 Try.underlying54 Try.underlying5 wr.heap.size 0 1 1 [48 + (m : Int) % 10] rfl (one_byte _ _ _ _ rfl) 9 Try.underlying9]
        go_wp2
        go_ret
        refine ⟨ret_str ?_, hbr.alloc hbr.size _⟩
        unfold textNums
        rw [if_pos (by omega), HD.out, decF_last f m hm, show 48 + (m : Int) % 10 = 48 + (m : Int) by omega]
        rfl
      · have he : (-((m : Int) / 10) == 0) = false := beq_eq_false_iff_ne.2 (by omega)
        have hf : 1 ≤ f := by
          rcases Nat.eq_zero_or_pos f with h | h
          · subst h; have := HM.out.1; omega
          · exact h
        go_wp2
        rw [run_convert_bytes_arg _ 54 5 Try.underlying54 Try.underlying5 wr.heap.size 0 1 1 [48 + (m : Int) % 10] rfl (one_byte _ _ _ _ rfl) 9 Try.underlying9]
        go_wp2
        go_roundw
        case rel =>
          obtain ⟨f, rfl⟩ : ∃ f', f = f' + 1 := ⟨f - 1, by omega⟩
          refine ⟨f, m / 10, _, rfl, by rw [Int.natCast_ediv]; rfl, by omega, ⟨?_, by have := HM.out.2.1; omega, by have := HM.out.2.2; simp only [List.length_cons]; omega⟩, ?_, hbr.alloc hbr.size _⟩
          · have := HM.out.1
            rw [Nat.pow_succ] at this
            omega
          · have h1 := HD.out
            rw [decF_more (f + 1) m hm, List.append_assoc, Int.natCast_emod] at h1
            rw [show 48 + (m : Int) % 10 = 48 + (m : Int) % 10 by omega]
            exact h1
        case measure => simp [intOf]; omega
    · have happ := str_cons (48 + -((m : Int) % 10)) zs
      have hsz : (strOfNums [48 + -((m : Int) % 10)]).size + (strOfNums zs).size ≤ 20 := by have := HM.out.2.2; rw [strOfNums_size, strOfNums_size, List.length_singleton]; omega
      have happ2 := str_minus ((48 + -((m : Int) % 10)) :: zs)
      have hsz2 : (⟨#[45]⟩ : ByteArray).size + (strOfNums ((48 + -((m : Int) % 10)) :: zs)).size ≤ 21 := by have := HM.out.2.2; rw [strOfNums_size, List.length_cons]; show 1 + _ ≤ _; omega
      by_cases hm : m < 10
      · have he : (-((m : Int) / 10) == 0) = true := beq_iff_eq.2 (by omega)
        go_wp2
        rw [run_convert_bytes_arg _ 54 5 Try.underlying54 Try.underlying5 wr.heap.size 0 1 1 [48 + -((m : Int) % 10)] rfl (one_byte _ _ _ _ rfl) 9 Try.underlying9]
        go_wp2
        go_ret
        refine ⟨ret_str ?_, hbr.alloc hbr.size _⟩
        unfold textNums
        rw [if_pos (by omega), HD.out, decF_last f m hm, show 48 + -((m : Int) % 10) = 48 + (m : Int) by omega]
        rfl
      · have he : (-((m : Int) / 10) == 0) = false := beq_eq_false_iff_ne.2 (by omega)
        have hf : 1 ≤ f := by
          rcases Nat.eq_zero_or_pos f with h | h
          · subst h; have := HM.out.1; omega
          · exact h
        go_wp2
        rw [run_convert_bytes_arg _ 54 5 Try.underlying54 Try.underlying5 wr.heap.size 0 1 1 [48 + -((m : Int) % 10)] rfl (one_byte _ _ _ _ rfl) 9 Try.underlying9]
        go_wp2
        go_roundw
        case rel =>
          obtain ⟨f, rfl⟩ : ∃ f', f = f' + 1 := ⟨f - 1, by omega⟩
          refine ⟨f, m / 10, _, rfl, by rw [Int.natCast_ediv]; rfl, by omega, ⟨?_, by have := HM.out.2.1; omega, by have := HM.out.2.2; simp only [List.length_cons]; omega⟩, ?_, hbr.alloc hbr.size _⟩
          · have := HM.out.1
            rw [Nat.pow_succ] at this
            omega
          · have h1 := HD.out
            rw [decF_more (f + 1) m hm, List.append_assoc, Int.natCast_emod] at h1
            rw [show 48 + -((m : Int) % 10) = 48 + (m : Int) % 10 by omega]
            exact h1
        case measure => simp [intOf]; omega

theorem reftext_any (n : Int) (w : World) (h0 : -9223372036854775808 ≤ n) (h1 : n ≤ 9223372036854775807) :
    Calls Try.prog 32 #[.int .i64 n] w fun e w' => e = .returned (.string (strOfNums (textNums n))) ∧ Below w.heap.size w w' := by
  rcases (show n < 0 ∨ 0 ≤ n by omega) with h | h
  · exact reftext_neg n w h h0
  · exact reftext_pos n w h h1
end Go.Proofs.Ytmgjnalijmplcaa
