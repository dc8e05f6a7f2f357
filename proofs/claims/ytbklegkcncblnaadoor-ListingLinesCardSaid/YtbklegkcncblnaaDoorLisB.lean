/- Package listing and its answers: meaning, Line, both. -/
import Derived.Test.YtbklegkcncblnaaDoorLisA
namespace Go.Proofs.YtbklegkcncblnaaDoor
open Go.ChangeShapes Go.WideShapes Go.ChangeAt Go.RowKit
set_option linter.unusedVariables false

theorem check_zero : checkOf 0 0 0 0 0 = 21 := by
  unfold checkOf
  rw [if_pos (by decide)]

theorem zero_i64 : I64 0 := by unfold I64; omega

theorem u32_add (x y : Int) : (x + y) % 4294967296 = (x + y) % 4294967296 := rfl

set_option maxHeartbeats 2000000 in
set_option maxRecDepth 100000 in
theorem meaning_any (at_ x : Int) (w : World) (hS : ShapesIn w) (hN : NamesIn w) (ha : 0 ≤ at_ ∧ at_ ≤ 4294967295) (h0 : 0 ≤ x) (h1 : x ≤ 4294967295) :
    Calls Tryd.prog 50 #[.int .u32 at_, .int .u32 x] w fun e w' => e = .returned (.string (meanOf at_ x)) ∧ Below w.heap.size w w' := by
  have HS := Lib.hid hS
  have HN := Lib.hid hN
  have DC := Lib.hid (fun w hs => decode_any x w hs h0 h1)
  by_cases hok : OkX x
  case neg =>
    have hV : decV x = .tuple #[instrV 0 0 0 0 0, .int .i64 21] := by
      unfold decV
      exact if_neg hok
    have hM : meanOf at_ x = ⟨#[63]⟩ := by
      unfold meanOf
      exact if_neg hok
    rw [hV] at DC
    rw [hM]
    have TX := Lib.hid (fun w hs hn => text02_any 0 0 0 0 0 w hs hn zero_i64 zero_i64 zero_i64 zero_i64)
    rw [check_zero] at TX
    unfold instrV at *
    clear hS hN hV hM hok h0 h1 ha
    go_enter Tryd.func50, Tryd.ntmps50
    go_wp2_with fail
    refine (DC.out _ HS.out).mono ?_
    rintro e w1 ⟨rfl, hb1⟩
    have B1 := Lib.hid (hb1.alloc hb1.size (.cells #[.int .i64 0, .int .i64 0, .int .i64 0, .int .i64 0, .int .i64 0] 47))
    have Q := Lib.hid (Whole.made w1 47 #[.int .i64 0, .int .i64 0, .int .i64 0, .int .i64 0, .int .i64 0] _ rfl)
    have HS1 := Lib.hid (HS.out.below B1.out (Nat.le_refl _))
    have HN1 := Lib.hid (HN.out.below B1.out (Nat.le_refl _))
    clear hb1
    go_wp2_with fail
    refine (TX.out _ HS1.out HN1.out).mono ?_
    rintro e w2 ⟨rfl, hb2⟩
    have B2 := Lib.hid (B1.out.trans (hb2.mono B1.out.size))
    clear hb2
    go_wp2_with fail
    go_ret
    exact ⟨rfl, B2.out⟩
  have hV : decV x = .tuple #[instrV (x / 16777216) (decA x) (decB x) (decC x) (decN x), .int .i64 0] := by
    unfold decV
    exact if_pos hok
  have hck := checkOf_good (a := decA x) (b := decB x) (c := decC x) (n := decN x) rfl hok.1 (decGood h0 h1 hok.1)
  obtain ⟨ia, ib, ic, inn⟩ := dec_i64 h0 h1 hok.1
  rw [hV] at DC
  have TX := Lib.hid (fun w hs hn => text02_any (x / 16777216) (decA x) (decB x) (decC x) (decN x) w hs hn ia ib ic inn)
  rw [hck, if_pos rfl] at TX
  have TG1 := Lib.hid (fun w h => target_yes at_ (x / 16777216) (decA x) (decB x) (decC x) (decN x) w h)
  have TG0 := Lib.hid (fun w h => target_no at_ (x / 16777216) (decA x) (decB x) (decC x) (decN x) w h)
  have hM : meanOf at_ x = if 20 ≤ x / 16777216 ∧ x / 16777216 ≤ 23 then decText x ++ ⟨#[32, 45, 62, 32]⟩ ++ hexStr (leadTo at_ (decN x)) else decText x := by
    unfold meanOf
    exact if_pos hok
  have HX := Lib.hid (fun w => hex_any (leadTo at_ (decN x)) w (leadTo_u32 _ _).1 (leadTo_u32 _ _).2)
  have z1 := textOf_size (x / 16777216) (decA x) (decB x) (decC x) (decN x)
  have z2 := hexStr_size (leadTo at_ (decN x))
  rw [show textOf (x / 16777216) (decA x) (decB x) (decC x) (decN x) = decText x from rfl] at TX z1
  rw [show strOfNums (hexNums (leadTo at_ (decN x))) = hexStr (leadTo at_ (decN x)) from rfl] at HX
  have RM := Lib.hid hM
  unfold instrV at *
  clear hS hN hV hM hok h0 h1 ha hck ia ib ic inn
  generalize meanOf at_ x = mv at *
  generalize hexStr (leadTo at_ (decN x)) = hs at *
  generalize leadTo at_ (decN x) = ld at *
  generalize decText x = tx at *
  generalize decA x = a at *
  generalize decB x = b at *
  generalize decC x = c at *
  generalize decN x = n at *
  generalize x / 16777216 = op at *
  go_enter Tryd.func50, Tryd.ntmps50
  go_wp2_with fail
  refine (DC.out _ HS.out).mono ?_
  rintro e w1 ⟨rfl, hb1⟩
  have B1 := Lib.hid (hb1.alloc hb1.size (.cells #[.int .i64 op, .int .i64 a, .int .i64 b, .int .i64 c, .int .i64 n] 47))
  have Q := Lib.hid (Whole.made w1 47 #[.int .i64 op, .int .i64 a, .int .i64 b, .int .i64 c, .int .i64 n] _ rfl)
  have HS1 := Lib.hid (HS.out.below B1.out (Nat.le_refl _))
  have HN1 := Lib.hid (HN.out.below B1.out (Nat.le_refl _))
  clear hb1
  go_wp2_with fail
  generalize w1.alloc (.cells #[.int .i64 op, .int .i64 a, .int .i64 b, .int .i64 c, .int .i64 n] 47) = V1 at *
  refine (TX.out _ HS1.out HN1.out).mono ?_
  rintro e w2 ⟨rfl, hb2⟩
  have B2 := Lib.hid (B1.out.trans (hb2.mono B1.out.size))
  have Q2 := Lib.hid (Q.out.below hb2 Q.out.lt)
  have q0 : w2.cell? ⟨w1.heap.size, 0, none⟩ = some (.int .i64 op) := Q2.out.cell 0
  have q1 : w2.cell? ⟨w1.heap.size, 1, none⟩ = some (.int .i64 a) := Q2.out.cell 1
  have q2 : w2.cell? ⟨w1.heap.size, 2, none⟩ = some (.int .i64 b) := Q2.out.cell 2
  have q3 : w2.cell? ⟨w1.heap.size, 3, none⟩ = some (.int .i64 c) := Q2.out.cell 3
  have q4 : w2.cell? ⟨w1.heap.size, 4, none⟩ = some (.int .i64 n) := Q2.out.cell 4
  clear hb2 Q Q2 B1
  go_wp2_with fail
  by_cases hop : 20 ≤ op ∧ op ≤ 23
  · have R1 := Lib.hid (RM.out.trans (if_pos hop))
    refine (TG1.out _ hop).mono ?_
    rintro e w3 ⟨rfl, hb3⟩
    have B3 := Lib.hid (B2.out.trans (hb3.mono B2.out.size))
    clear hb3 TG0 TG1 hop
    go_wp2_with fail
    refine (HX.out _).mono ?_
    rintro e w4 ⟨rfl, hb4⟩
    have B4 := Lib.hid (B3.out.trans (hb4.mono B3.out.size))
    clear hb4
    have z3 : (tx ++ ⟨#[32, 45, 62, 32]⟩ : ByteArray).size ≤ 105 := by
      rw [ByteArray.size_append]
      have h2 : (⟨#[32, 45, 62, 32]⟩ : ByteArray).size = 4 := rfl
      omega
    go_wp2_with fail
    go_ret
    exact ⟨by rw [R1.out]; rfl, B4.out⟩
  · have R1 := Lib.hid (RM.out.trans (if_neg hop))
    refine (TG0.out _ hop).mono ?_
    rintro e w3 ⟨rfl, hb3⟩
    have B3 := Lib.hid (B2.out.trans (hb3.mono B2.out.size))
    clear hb3 TG0 TG1 hop
    go_wp2_with fail
    go_ret
    exact ⟨by rw [R1.out]; rfl, B3.out⟩

set_option maxHeartbeats 2000000 in
set_option maxRecDepth 100000 in
theorem line_any (at_ x : Int) (w : World) (hS : ShapesIn w) (hN : NamesIn w) (ha : 0 ≤ at_ ∧ at_ ≤ 4294967295) (h0 : 0 ≤ x) (h1 : x ≤ 4294967295) :
    Calls Tryd.prog 25 #[.int .u32 at_, .int .u32 x] w fun e w' => e = .returned (.string (lineOf at_ x)) ∧ Below w.heap.size w w' := by
  have HS := Lib.hid hS
  have HN := Lib.hid hN
  have HA := Lib.hid (fun w => hex_any at_ w ha.1 ha.2)
  have HX := Lib.hid (fun w => hex_any x w h0 h1)
  have MN := Lib.hid (fun w hs hn => meaning_any at_ x w hs hn ha h0 h1)
  have R := Lib.hid (show lineOf at_ x = hexStr at_ ++ ⟨#[32]⟩ ++ hexStr x ++ ⟨#[32]⟩ ++ meanOf at_ x from rfl)
  have z1 := hexStr_size at_
  have z2 := hexStr_size x
  have z3 := meanOf_size at_ x
  have z4 : (⟨#[32]⟩ : ByteArray).size = 1 := rfl
  have y1 : (hexStr at_ ++ ⟨#[32]⟩ : ByteArray).size = 9 := by rw [ByteArray.size_append]; omega
  have y2 : (hexStr at_ ++ ⟨#[32]⟩ ++ hexStr x : ByteArray).size = 17 := by rw [ByteArray.size_append]; omega
  have y3 : (hexStr at_ ++ ⟨#[32]⟩ ++ hexStr x ++ ⟨#[32]⟩ : ByteArray).size = 18 := by rw [ByteArray.size_append]; omega
  rw [show strOfNums (hexNums at_) = hexStr at_ from rfl] at HA
  rw [show strOfNums (hexNums x) = hexStr x from rfl] at HX
  rw [R.out]
  clear hS hN ha h0 h1 R
  generalize hexStr at_ = sa at *
  generalize hexStr x = sx at *
  generalize meanOf at_ x = sm at *
  go_enter Tryd.func25, Tryd.ntmps25
  go_wp2_with fail
  refine (HA.out _).mono ?_
  rintro e w1 ⟨rfl, hb1⟩
  have B1 := Lib.hid hb1
  clear hb1
  go_wp2_with fail
  refine (HX.out _).mono ?_
  rintro e w2 ⟨rfl, hb2⟩
  have B2 := Lib.hid (B1.out.trans (hb2.mono B1.out.size))
  clear hb2
  go_wp2_with fail
  refine (MN.out _ (HS.out.below B2.out (Nat.le_refl _)) (HN.out.below B2.out (Nat.le_refl _))).mono ?_
  rintro e w3 ⟨rfl, hb3⟩
  have B3 := Lib.hid (B2.out.trans (hb3.mono B2.out.size))
  clear hb3
  go_wp2_with fail
  go_ret
  exact ⟨rfl, B3.out⟩
end Go.Proofs.YtbklegkcncblnaaDoor
