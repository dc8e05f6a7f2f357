/- The answers' listing: Line. The page's example. -/
import Derived.Test.YtbklegkcncblnaaDoorLisB
namespace Go.Proofs.YtbklegkcncblnaaDoor
open Go.ChangeShapes Go.WideShapes Go.ChangeAt Go.RowKit
set_option linter.unusedVariables false
set_option linter.unusedSimpArgs false

theorem leads_any (op : Int) (w : World) :
    Calls Tryd.prog 51 #[.int .i64 op] w fun e w' => e = .returned (.bool (decide (20 ≤ op ∧ op ≤ 23))) ∧ w = w' := by
  by_cases h : 20 ≤ op
  · have h1 : decide (20 ≤ op) = true := decide_eq_true h
    go_enter Tryd.func51, Tryd.ntmps51
    go_wp2_with fail
    go_ret
    exact ⟨by simp [h], rfl⟩
  · have h1 : decide (20 ≤ op) = false := decide_eq_false h
    go_enter Tryd.func51, Tryd.ntmps51
    go_wp2_with fail
    go_ret
    exact ⟨by simp [h], rfl⟩

set_option maxHeartbeats 2000000 in
set_option maxRecDepth 100000 in
theorem refline_any (at_ x : Int) (w : World) (ha : 0 ≤ at_ ∧ at_ ≤ 4294967295) (h0 : 0 ≤ x) (h1 : x ≤ 4294967295) :
    Calls Tryd.prog 26 #[.int .u32 at_, .int .u32 x] w fun e w' => e = .returned (.string (lineOf at_ x)) ∧ Below w.heap.size w w' := by
  have DC := Lib.hid (fun w => refdecode_any x w h0 h1)
  have HA := Lib.hid (fun w => refhex_any at_ w ha.1 ha.2)
  have HX := Lib.hid (fun w => refhex_any x w h0 h1)
  have z1 := hexStr_size at_
  have z2 := hexStr_size x
  have z4 : (⟨#[32]⟩ : ByteArray).size = 1 := rfl
  have z5 : (⟨#[63]⟩ : ByteArray).size = 1 := rfl
  have y1 : (hexStr at_ ++ ⟨#[32]⟩ : ByteArray).size = 9 := by rw [ByteArray.size_append]; omega
  have y2 : (hexStr at_ ++ ⟨#[32]⟩ ++ hexStr x : ByteArray).size = 17 := by rw [ByteArray.size_append]; omega
  have y3 : (hexStr at_ ++ ⟨#[32]⟩ ++ hexStr x ++ ⟨#[32]⟩ : ByteArray).size = 18 := by rw [ByteArray.size_append]; omega
  rw [show strOfNums (hexNums at_) = hexStr at_ from rfl] at HA
  rw [show strOfNums (hexNums x) = hexStr x from rfl] at HX
  by_cases hok : OkX x
  case neg =>
    have hV : decV x = .tuple #[instrV 0 0 0 0 0, .int .i64 21] := by
      unfold decV
      exact if_neg hok
    have hM : lineOf at_ x = hexStr at_ ++ ⟨#[32]⟩ ++ hexStr x ++ ⟨#[32]⟩ ++ ⟨#[63]⟩ := by
      unfold lineOf meanOf
      rw [if_neg hok]
    rw [hV] at DC
    rw [hM]
    unfold instrV at *
    clear hV hM hok h0 h1 ha
    generalize hexStr at_ = sa at *
    generalize hexStr x = sx at *
    go_enter Tryd.func26, Tryd.ntmps26
    go_wp2_with fail
    refine (HA.out _).mono ?_
    rintro e w1 ⟨rfl, rfl⟩
    go_wp2_with fail
    refine (HX.out _).mono ?_
    rintro e w2 ⟨rfl, rfl⟩
    go_wp2_with fail
    refine (DC.out _).mono ?_
    rintro e w3 ⟨rfl, hb3⟩
    have B3 := Lib.hid (hb3.alloc hb3.size (.cells #[.int .i64 0, .int .i64 0, .int .i64 0, .int .i64 0, .int .i64 0] 98))
    clear hb3
    go_wp2_with fail
    go_ret
    exact ⟨rfl, B3.out⟩
  have hV : decV x = .tuple #[instrV (x / 16777216) (decA x) (decB x) (decC x) (decN x), .int .i64 0] := by
    unfold decV
    exact if_pos hok
  have hck := checkOf_good (a := decA x) (b := decB x) (c := decC x) (n := decN x) rfl hok.1 (decGood h0 h1 hok.1)
  obtain ⟨ia, ib, ic, inn⟩ := dec_i64 h0 h1 hok.1
  rw [hV] at DC
  have TX := Lib.hid (fun w => reftext02_any (x / 16777216) (decA x) (decB x) (decC x) (decN x) w ia ib ic inn)
  rw [hck, if_pos rfl] at TX
  have hM : lineOf at_ x = hexStr at_ ++ ⟨#[32]⟩ ++ hexStr x ++ ⟨#[32]⟩ ++ (if 20 ≤ x / 16777216 ∧ x / 16777216 ≤ 23 then decText x ++ ⟨#[32, 45, 62, 32]⟩ ++ hexStr (leadTo at_ (decN x)) else decText x) := by
    unfold lineOf meanOf
    rw [if_pos hok]
  have HL := Lib.hid (fun w => refhex_any (leadTo at_ (decN x)) w (leadTo_u32 _ _).1 (leadTo_u32 _ _).2)
  have z6 := textOf_size (x / 16777216) (decA x) (decB x) (decC x) (decN x)
  have z7 := hexStr_size (leadTo at_ (decN x))
  have hL : (at_ + 4 + 4 * (decN x % 4294967296)) % 4294967296 = leadTo at_ (decN x) := by unfold leadTo; omega
  rw [show textOf (x / 16777216) (decA x) (decB x) (decC x) (decN x) = decText x from rfl] at TX z6
  rw [show strOfNums (hexNums (leadTo at_ (decN x))) = hexStr (leadTo at_ (decN x)) from rfl] at HL
  have RM := Lib.hid hM
  have LE := Lib.hid hL
  unfold instrV at *
  clear hV hM hok h0 h1 ha hck ia ib ic inn hL
  generalize lineOf at_ x = mv at *
  generalize hexStr (leadTo at_ (decN x)) = hs at *
  generalize leadTo at_ (decN x) = ld at *
  generalize decText x = tx at *
  generalize decA x = a at *
  generalize decB x = b at *
  generalize decC x = c at *
  generalize decN x = n at *
  generalize x / 16777216 = op at *
  generalize hexStr at_ = sa at *
  generalize hexStr x = sx at *
  go_enter Tryd.func26, Tryd.ntmps26
  go_wp2_with fail
  refine (HA.out _).mono ?_
  rintro e w1 ⟨rfl, rfl⟩
  go_wp2_with fail
  refine (HX.out _).mono ?_
  rintro e w2 ⟨rfl, rfl⟩
  go_wp2_with fail
  refine (DC.out _).mono ?_
  rintro e w3 ⟨rfl, hb3⟩
  have B3 := Lib.hid (hb3.alloc hb3.size (.cells #[.int .i64 op, .int .i64 a, .int .i64 b, .int .i64 c, .int .i64 n] 98))
  have Q := Lib.hid (Whole.made w3 98 #[.int .i64 op, .int .i64 a, .int .i64 b, .int .i64 c, .int .i64 n] _ rfl)
  clear hb3
  go_wp2_with fail
  generalize w3.alloc (.cells #[.int .i64 op, .int .i64 a, .int .i64 b, .int .i64 c, .int .i64 n] 98) = V1 at *
  refine (TX.out _).mono ?_
  rintro e w4 ⟨rfl, hb4⟩
  have B4 := Lib.hid (B3.out.trans (hb4.mono B3.out.size))
  have Q2 := Lib.hid (Q.out.below hb4 Q.out.lt)
  have q0 : w4.cell? ⟨w3.heap.size, 0, none⟩ = some (.int .i64 op) := Q2.out.cell 0
  have q4 : w4.cell? ⟨w3.heap.size, 4, none⟩ = some (.int .i64 n) := Q2.out.cell 4
  clear hb4 Q Q2 B3
  have LD := Lib.hid (leads_any op)
  go_wp2_with fail
  refine (LD.out _).mono ?_
  rintro e w5 ⟨rfl, rfl⟩
  by_cases hop : 20 ≤ op ∧ op ≤ 23
  · have R1 := Lib.hid (RM.out.trans (by rw [if_pos hop]))
    have d1 : decide (20 ≤ op ∧ op ≤ 23) = true := decide_eq_true hop
    clear hop
    have z3 : (tx ++ ⟨#[32, 45, 62, 32]⟩ : ByteArray).size ≤ 105 := by
      rw [ByteArray.size_append]
      have h2 : (⟨#[32, 45, 62, 32]⟩ : ByteArray).size = 4 := rfl
      omega
    have z8 : (tx ++ ⟨#[32, 45, 62, 32]⟩ ++ hs : ByteArray).size ≤ 113 := by
      rw [ByteArray.size_append]
      omega
    rw [d1]
    go_wp2_with fail
    rw [LE.out]
    refine (HL.out _).mono ?_
    rintro e w6 ⟨rfl, rfl⟩
    go_wp2_with fail
    go_ret
    exact ⟨by rw [R1.out]; rfl, B4.out⟩
  · have R1 := Lib.hid (RM.out.trans (by rw [if_neg hop]))
    have d1 : decide (20 ≤ op ∧ op ≤ 23) = false := decide_eq_false hop
    clear hop
    rw [d1]
    go_wp2_with fail
    go_ret
    exact ⟨by rw [R1.out]; rfl, B4.out⟩
end Go.Proofs.YtbklegkcncblnaaDoor
