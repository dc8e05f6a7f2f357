/- LisA LisB LisC LisD in one. -/
import Derived.Test.YtoffagmoaedkbaaDoorInstrS
import Derived.Test.YtoffagmoaedkbaaDoorInstrR
import Derived.Test.YtoffagmoaedkbaaDoorInstrJ
import Derived.Test.YtoffagmoaedkbaaDoorWordB
import Derived.Test.YtoffagmoaedkbaaDoorWordI

/- Package listing and its answers: Target, the line of a word. -/
namespace Go.Proofs.YtoffagmoaedkbaaDoor
open Go.ChangeShapes Go.WideShapes Go.ChangeAt Go.RowKit
set_option linter.unusedVariables false

/-- Where an instruction leads. -/
def leadTo (at_ n : Int) : Int := (at_ + 4 + 4 * n) % 4294967296

theorem leadTo_eq (at_ n : Int) : ((at_ + 4) % 4294967296 + 4 * (n % 4294967296) % 4294967296) % 4294967296 = leadTo at_ n := by
  unfold leadTo
  omega

theorem leadTo_u32 (at_ n : Int) : 0 ≤ leadTo at_ n ∧ leadTo at_ n ≤ 4294967295 := by
  unfold leadTo
  omega

set_option maxHeartbeats 1000000 in
set_option maxRecDepth 100000 in
theorem target_yes (at_ op a b c n : Int) (w : World) (h : 20 ≤ op ∧ op ≤ 23) :
    Calls Tryd.prog 106 #[.int .u32 at_, instrV op a b c n] w fun e w' => e = .returned (.tuple #[.int .u32 (leadTo at_ n), .bool true]) ∧ Below w.heap.size w w' := by
  have hL := leadTo_eq at_ n
  have B0 := Lib.hid ((Below.refl w.heap.size w).alloc (Nat.le_refl _) (.cells #[.int .i64 op, .int .i64 a, .int .i64 b, .int .i64 c, .int .i64 n] 104))
  unfold instrV
  rcases (show op = 20 ∨ op = 21 ∨ op = 22 ∨ op = 23 by omega) with rfl | rfl | rfl | rfl
  all_goals
    clear h
    go_enter Tryd.func106, Tryd.ntmps106
    go_wp2_with fail
    go_ret2
    exact ⟨by rw [← hL]; rfl, B0.out⟩

set_option maxHeartbeats 1000000 in
set_option maxRecDepth 100000 in
theorem target_no (at_ op a b c n : Int) (w : World) (h : ¬ (20 ≤ op ∧ op ≤ 23)) :
    Calls Tryd.prog 106 #[.int .u32 at_, instrV op a b c n] w fun e w' => e = .returned (.tuple #[.int .u32 0, .bool false]) ∧ Below w.heap.size w w' := by
  have B0 := Lib.hid ((Below.refl w.heap.size w).alloc (Nat.le_refl _) (.cells #[.int .i64 op, .int .i64 a, .int .i64 b, .int .i64 c, .int .i64 n] 104))
  have d0 : (op == 20) = false := by simp; omega
  have d1 : (op == 21) = false := by simp; omega
  have d2 : (op == 22) = false := by simp; omega
  have d3 : (op == 23) = false := by simp; omega
  unfold instrV
  clear h
  go_enter Tryd.func106, Tryd.ntmps106
  go_wp2_with fail
  go_ret2
  exact ⟨rfl, B0.out⟩

theorem joinUp_size {s : ByteArray} {l : List ByteArray} (hs : s.size ≤ 5) (hl : ∀ x ∈ l, x.size ≤ 22) (k : Nat) : (joinUp s l k).size ≤ 5 + 24 * k := by
  induction k with
  | zero => simpa [joinUp] using hs
  | succ k ih =>
    have hg : (l.getD k ⟨#[]⟩).size ≤ 22 := by
      rw [List.getD_eq_getElem?_getD]
      cases h : l[k]? with
      | none => exact Nat.zero_le _
      | some x => exact hl x (List.mem_of_getElem? h)
    have h1 : (⟨#[44]⟩ : ByteArray).size = 1 := rfl
    have h2 : (⟨#[32]⟩ : ByteArray).size = 1 := rfl
    unfold joinUp
    rw [ByteArray.size_append, ByteArray.size_append, h2]
    split
    · rw [ByteArray.size_append, h1]
      omega
    · omega

theorem textOf_size (op a b c n : Int) : (textOf op a b c n).size ≤ 101 := by
  obtain ⟨h1, h2⟩ := fields_small op a b c n
  have := joinUp_size (name_size op) h2 (fieldTexts op a b c n).length
  unfold textOf
  omega

/-- Is a word an instruction? -/
def OkX (x : Int) : Prop := shapeOf (x / 16777216) ≠ -1 ∧ wordOf (x / 16777216) (decA x) (decB x) (decC x) (decN x) = x

instance (x : Int) : Decidable (OkX x) := by unfold OkX; infer_instance

def hexStr (n : Int) : ByteArray := strOfNums (hexNums n)

theorem hexStr_size (n : Int) : (hexStr n).size = 8 := by
  unfold hexStr
  rw [strOfNums_size]
  rfl

def decText (x : Int) : ByteArray := textOf (x / 16777216) (decA x) (decB x) (decC x) (decN x)

/-- What a line says of a word. -/
def meanOf (at_ x : Int) : ByteArray :=
  if OkX x then (if 20 ≤ x / 16777216 ∧ x / 16777216 ≤ 23 then decText x ++ ⟨#[32, 45, 62, 32]⟩ ++ hexStr (leadTo at_ (decN x)) else decText x) else ⟨#[63]⟩

theorem meanOf_size (at_ x : Int) : (meanOf at_ x).size ≤ 113 := by
  have h1 := textOf_size (x / 16777216) (decA x) (decB x) (decC x) (decN x)
  have h2 : (⟨#[32, 45, 62, 32]⟩ : ByteArray).size = 4 := rfl
  unfold meanOf decText
  split
  · split
    · rw [ByteArray.size_append, ByteArray.size_append, hexStr_size, h2]
      omega
    · omega
  · decide

/-- The line of a word. -/
def lineOf (at_ x : Int) : ByteArray := hexStr at_ ++ ⟨#[32]⟩ ++ hexStr x ++ ⟨#[32]⟩ ++ meanOf at_ x

theorem dec_i64 {x : Int} (h0 : 0 ≤ x) (h1 : x ≤ 4294967295) (h : shapeOf (x / 16777216) ≠ -1) : I64 (decA x) ∧ I64 (decB x) ∧ I64 (decC x) ∧ I64 (decN x) := by
  obtain ⟨a0, a1, b0, b1, c0, c1, _, _, _, n0, n1⟩ := decGood h0 h1 h
  unfold lowOf at n0
  unfold highOf at n1
  unfold I64
  split at n0 <;> split at n1 <;> (try split at n0) <;> (try split at n1) <;> (try split at n1) <;> (refine ⟨?_, ?_, ?_, ?_⟩ <;> omega)
end Go.Proofs.YtoffagmoaedkbaaDoor

/- Package listing and its answers: meaning, Line, both. -/
namespace Go.Proofs.YtoffagmoaedkbaaDoor
open Go.ChangeShapes Go.WideShapes Go.ChangeAt Go.RowKit
set_option linter.unusedVariables false

theorem check_zero : checkOf 0 0 0 0 0 = 21 := by
  unfold checkOf
  rw [if_pos (by decide)]

theorem zero_i64 : I64 0 := by unfold I64; omega

theorem u32_add (x y : Int) : (x + y) % 4294967296 = (x + y) % 4294967296 := rfl

set_option maxHeartbeats 2000000 in
set_option maxRecDepth 100000 in
theorem meaning_any (at_ x : Int) (w : World) (hS : ShapesIn w) (hN : NamesIn w) (ha : 0 ≤ at_ ∧ at_ ≤ 4294967295) (h0 : 0 ≤ x) (h1 : x ≤ 4294967295) :
    Calls Tryd.prog 81 #[.int .u32 at_, .int .u32 x] w fun e w' => e = .returned (.string (meanOf at_ x)) ∧ Below w.heap.size w w' := by
  have HS := Lib.hid hS
  have HN := Lib.hid hN
  have DC := Lib.hid (fun w hs => decode_any x w hs h0 h1)
  by_cases hok : OkX x
  case neg =>
    have hV : decV x = .tuple #[instrV 0 0 0 0 0, .int .i64 21] := by
      unfold decV
      exact if_neg hok
    have hM : meanOf at_ x = ⟨#[63]⟩ := by
      unfold meanOf
      exact if_neg hok
    rw [hV] at DC
    rw [hM]
    have TX := Lib.hid (fun w hs hn => text02_any 0 0 0 0 0 w hs hn zero_i64 zero_i64 zero_i64 zero_i64)
    rw [check_zero] at TX
    unfold instrV at *
    clear hS hN hV hM hok h0 h1 ha
    go_enter Tryd.func81, Tryd.ntmps81
    go_wp2_with fail
    refine (DC.out _ HS.out).mono ?_
    rintro e w1 ⟨rfl, hb1⟩
    have B1 := Lib.hid (hb1.alloc hb1.size (.cells #[.int .i64 0, .int .i64 0, .int .i64 0, .int .i64 0, .int .i64 0] 104))
    have Q := Lib.hid (Whole.made w1 104 #[.int .i64 0, .int .i64 0, .int .i64 0, .int .i64 0, .int .i64 0] _ rfl)
    have HS1 := Lib.hid (HS.out.below B1.out (Nat.le_refl _))
    have HN1 := Lib.hid (HN.out.below B1.out (Nat.le_refl _))
    clear hb1
    go_wp2_with fail
    refine (TX.out _ HS1.out HN1.out).mono ?_
    rintro e w2 ⟨rfl, hb2⟩
    have B2 := Lib.hid (B1.out.trans (hb2.mono B1.out.size))
    clear hb2
    go_wp2_with fail
    go_ret
    exact ⟨rfl, B2.out⟩
  have hV : decV x = .tuple #[instrV (x / 16777216) (decA x) (decB x) (decC x) (decN x), .int .i64 0] := by
    unfold decV
    exact if_pos hok
  have hck := checkOf_good (a := decA x) (b := decB x) (c := decC x) (n := decN x) rfl hok.1 (decGood h0 h1 hok.1)
  obtain ⟨ia, ib, ic, inn⟩ := dec_i64 h0 h1 hok.1
  rw [hV] at DC
  have TX := Lib.hid (fun w hs hn => text02_any (x / 16777216) (decA x) (decB x) (decC x) (decN x) w hs hn ia ib ic inn)
  rw [hck, if_pos rfl] at TX
  have TG1 := Lib.hid (fun w h => target_yes at_ (x / 16777216) (decA x) (decB x) (decC x) (decN x) w h)
  have TG0 := Lib.hid (fun w h => target_no at_ (x / 16777216) (decA x) (decB x) (decC x) (decN x) w h)
  have hM : meanOf at_ x = if 20 ≤ x / 16777216 ∧ x / 16777216 ≤ 23 then decText x ++ ⟨#[32, 45, 62, 32]⟩ ++ hexStr (leadTo at_ (decN x)) else decText x := by
    unfold meanOf
    exact if_pos hok
  have HX := Lib.hid (fun w => hex_any (leadTo at_ (decN x)) w (leadTo_u32 _ _).1 (leadTo_u32 _ _).2)
  have z1 := textOf_size (x / 16777216) (decA x) (decB x) (decC x) (decN x)
  have z2 := hexStr_size (leadTo at_ (decN x))
  rw [show textOf (x / 16777216) (decA x) (decB x) (decC x) (decN x) = decText x from rfl] at TX z1
  rw [show strOfNums (hexNums (leadTo at_ (decN x))) = hexStr (leadTo at_ (decN x)) from rfl] at HX
  have RM := Lib.hid hM
  unfold instrV at *
  clear hS hN hV hM hok h0 h1 ha hck ia ib ic inn
  generalize meanOf at_ x = mv at *
  generalize hexStr (leadTo at_ (decN x)) = hs at *
  generalize leadTo at_ (decN x) = ld at *
  generalize decText x = tx at *
  generalize decA x = a at *
  generalize decB x = b at *
  generalize decC x = c at *
  generalize decN x = n at *
  generalize x / 16777216 = op at *
  go_enter Tryd.func81, Tryd.ntmps81
  go_wp2_with fail
  refine (DC.out _ HS.out).mono ?_
  rintro e w1 ⟨rfl, hb1⟩
  have B1 := Lib.hid (hb1.alloc hb1.size (.cells #[.int .i64 op, .int .i64 a, .int .i64 b, .int .i64 c, .int .i64 n] 104))
  have Q := Lib.hid (Whole.made w1 104 #[.int .i64 op, .int .i64 a, .int .i64 b, .int .i64 c, .int .i64 n] _ rfl)
  have HS1 := Lib.hid (HS.out.below B1.out (Nat.le_refl _))
  have HN1 := Lib.hid (HN.out.below B1.out (Nat.le_refl _))
  clear hb1
  go_wp2_with fail
  generalize w1.alloc (.cells #[.int .i64 op, .int .i64 a, .int .i64 b, .int .i64 c, .int .i64 n] 104) = V1 at *
  refine (TX.out _ HS1.out HN1.out).mono ?_
  rintro e w2 ⟨rfl, hb2⟩
  have B2 := Lib.hid (B1.out.trans (hb2.mono B1.out.size))
  have Q2 := Lib.hid (Q.out.below hb2 Q.out.lt)
  have q0 : w2.cell? ⟨w1.heap.size, 0, none⟩ = some (.int .i64 op) := Q2.out.cell 0
  have q1 : w2.cell? ⟨w1.heap.size, 1, none⟩ = some (.int .i64 a) := Q2.out.cell 1
  have q2 : w2.cell? ⟨w1.heap.size, 2, none⟩ = some (.int .i64 b) := Q2.out.cell 2
  have q3 : w2.cell? ⟨w1.heap.size, 3, none⟩ = some (.int .i64 c) := Q2.out.cell 3
  have q4 : w2.cell? ⟨w1.heap.size, 4, none⟩ = some (.int .i64 n) := Q2.out.cell 4
  clear hb2 Q Q2 B1
  go_wp2_with fail
  by_cases hop : 20 ≤ op ∧ op ≤ 23
  · have R1 := Lib.hid (RM.out.trans (if_pos hop))
    refine (TG1.out _ hop).mono ?_
    rintro e w3 ⟨rfl, hb3⟩
    have B3 := Lib.hid (B2.out.trans (hb3.mono B2.out.size))
    clear hb3 TG0 TG1 hop
    go_wp2_with fail
    refine (HX.out _).mono ?_
    rintro e w4 ⟨rfl, hb4⟩
    have B4 := Lib.hid (B3.out.trans (hb4.mono B3.out.size))
    clear hb4
    have z3 : (tx ++ ⟨#[32, 45, 62, 32]⟩ : ByteArray).size ≤ 105 := by
      rw [ByteArray.size_append]
      have h2 : (⟨#[32, 45, 62, 32]⟩ : ByteArray).size = 4 := rfl
      omega
    go_wp2_with fail
    go_ret
    exact ⟨by rw [R1.out]; rfl, B4.out⟩
  · have R1 := Lib.hid (RM.out.trans (if_neg hop))
    refine (TG0.out _ hop).mono ?_
    rintro e w3 ⟨rfl, hb3⟩
    have B3 := Lib.hid (B2.out.trans (hb3.mono B2.out.size))
    clear hb3 TG0 TG1 hop
    go_wp2_with fail
    go_ret
    exact ⟨by rw [R1.out]; rfl, B3.out⟩

set_option maxHeartbeats 2000000 in
set_option maxRecDepth 100000 in
theorem line_any (at_ x : Int) (w : World) (hS : ShapesIn w) (hN : NamesIn w) (ha : 0 ≤ at_ ∧ at_ ≤ 4294967295) (h0 : 0 ≤ x) (h1 : x ≤ 4294967295) :
    Calls Tryd.prog 43 #[.int .u32 at_, .int .u32 x] w fun e w' => e = .returned (.string (lineOf at_ x)) ∧ Below w.heap.size w w' := by
  have HS := Lib.hid hS
  have HN := Lib.hid hN
  have HA := Lib.hid (fun w => hex_any at_ w ha.1 ha.2)
  have HX := Lib.hid (fun w => hex_any x w h0 h1)
  have MN := Lib.hid (fun w hs hn => meaning_any at_ x w hs hn ha h0 h1)
  have R := Lib.hid (show lineOf at_ x = hexStr at_ ++ ⟨#[32]⟩ ++ hexStr x ++ ⟨#[32]⟩ ++ meanOf at_ x from rfl)
  have z1 := hexStr_size at_
  have z2 := hexStr_size x
  have z3 := meanOf_size at_ x
  have z4 : (⟨#[32]⟩ : ByteArray).size = 1 := rfl
  have y1 : (hexStr at_ ++ ⟨#[32]⟩ : ByteArray).size = 9 := by rw [ByteArray.size_append]; omega
  have y2 : (hexStr at_ ++ ⟨#[32]⟩ ++ hexStr x : ByteArray).size = 17 := by rw [ByteArray.size_append]; omega
  have y3 : (hexStr at_ ++ ⟨#[32]⟩ ++ hexStr x ++ ⟨#[32]⟩ : ByteArray).size = 18 := by rw [ByteArray.size_append]; omega
  rw [show strOfNums (hexNums at_) = hexStr at_ from rfl] at HA
  rw [show strOfNums (hexNums x) = hexStr x from rfl] at HX
  rw [R.out]
  clear hS hN ha h0 h1 R
  generalize hexStr at_ = sa at *
  generalize hexStr x = sx at *
  generalize meanOf at_ x = sm at *
  go_enter Tryd.func43, Tryd.ntmps43
  go_wp2_with fail
  refine (HA.out _).mono ?_
  rintro e w1 ⟨rfl, hb1⟩
  have B1 := Lib.hid hb1
  clear hb1
  go_wp2_with fail
  refine (HX.out _).mono ?_
  rintro e w2 ⟨rfl, hb2⟩
  have B2 := Lib.hid (B1.out.trans (hb2.mono B1.out.size))
  clear hb2
  go_wp2_with fail
  refine (MN.out _ (HS.out.below B2.out (Nat.le_refl _)) (HN.out.below B2.out (Nat.le_refl _))).mono ?_
  rintro e w3 ⟨rfl, hb3⟩
  have B3 := Lib.hid (B2.out.trans (hb3.mono B2.out.size))
  clear hb3
  go_wp2_with fail
  go_ret
  exact ⟨rfl, B3.out⟩
end Go.Proofs.YtoffagmoaedkbaaDoor

/- The answers' listing: Line. The page's example. -/
namespace Go.Proofs.YtoffagmoaedkbaaDoor
open Go.ChangeShapes Go.WideShapes Go.ChangeAt Go.RowKit
set_option linter.unusedVariables false
set_option linter.unusedSimpArgs false

theorem leads_any (op : Int) (w : World) :
    Calls Tryd.prog 83 #[.int .i64 op] w fun e w' => e = .returned (.bool (decide (20 ≤ op ∧ op ≤ 23))) ∧ w = w' := by
  by_cases h : 20 ≤ op
  · have h1 : decide (20 ≤ op) = true := decide_eq_true h
    go_enter Tryd.func83, Tryd.ntmps83
    go_wp2_with fail
    go_ret
    exact ⟨by simp [h], rfl⟩
  · have h1 : decide (20 ≤ op) = false := decide_eq_false h
    go_enter Tryd.func83, Tryd.ntmps83
    go_wp2_with fail
    go_ret
    exact ⟨by simp [h], rfl⟩

set_option maxHeartbeats 2000000 in
set_option maxRecDepth 100000 in
theorem refline_any (at_ x : Int) (w : World) (ha : 0 ≤ at_ ∧ at_ ≤ 4294967295) (h0 : 0 ≤ x) (h1 : x ≤ 4294967295) :
    Calls Tryd.prog 45 #[.int .u32 at_, .int .u32 x] w fun e w' => e = .returned (.string (lineOf at_ x)) ∧ Below w.heap.size w w' := by
  have DC := Lib.hid (fun w => refdecode_any x w h0 h1)
  have HA := Lib.hid (fun w => refhex_any at_ w ha.1 ha.2)
  have HX := Lib.hid (fun w => refhex_any x w h0 h1)
  have z1 := hexStr_size at_
  have z2 := hexStr_size x
  have z4 : (⟨#[32]⟩ : ByteArray).size = 1 := rfl
  have z5 : (⟨#[63]⟩ : ByteArray).size = 1 := rfl
  have y1 : (hexStr at_ ++ ⟨#[32]⟩ : ByteArray).size = 9 := by rw [ByteArray.size_append]; omega
  have y2 : (hexStr at_ ++ ⟨#[32]⟩ ++ hexStr x : ByteArray).size = 17 := by rw [ByteArray.size_append]; omega
  have y3 : (hexStr at_ ++ ⟨#[32]⟩ ++ hexStr x ++ ⟨#[32]⟩ : ByteArray).size = 18 := by rw [ByteArray.size_append]; omega
  rw [show strOfNums (hexNums at_) = hexStr at_ from rfl] at HA
  rw [show strOfNums (hexNums x) = hexStr x from rfl] at HX
  by_cases hok : OkX x
  case neg =>
    have hV : decV x = .tuple #[instrV 0 0 0 0 0, .int .i64 21] := by
      unfold decV
      exact if_neg hok
    have hM : lineOf at_ x = hexStr at_ ++ ⟨#[32]⟩ ++ hexStr x ++ ⟨#[32]⟩ ++ ⟨#[63]⟩ := by
      unfold lineOf meanOf
      rw [if_neg hok]
    rw [hV] at DC
    rw [hM]
    unfold instrV at *
    clear hV hM hok h0 h1 ha
    generalize hexStr at_ = sa at *
    generalize hexStr x = sx at *
    go_enter Tryd.func45, Tryd.ntmps45
    go_wp2_with fail
    refine (HA.out _).mono ?_
    rintro e w1 ⟨rfl, rfl⟩
    go_wp2_with fail
    refine (HX.out _).mono ?_
    rintro e w2 ⟨rfl, rfl⟩
    go_wp2_with fail
    refine (DC.out _).mono ?_
    rintro e w3 ⟨rfl, hb3⟩
    have B3 := Lib.hid (hb3.alloc hb3.size (.cells #[.int .i64 0, .int .i64 0, .int .i64 0, .int .i64 0, .int .i64 0] 91))
    clear hb3
    go_wp2_with fail
    go_ret
    exact ⟨rfl, B3.out⟩
  have hV : decV x = .tuple #[instrV (x / 16777216) (decA x) (decB x) (decC x) (decN x), .int .i64 0] := by
    unfold decV
    exact if_pos hok
  have hck := checkOf_good (a := decA x) (b := decB x) (c := decC x) (n := decN x) rfl hok.1 (decGood h0 h1 hok.1)
  obtain ⟨ia, ib, ic, inn⟩ := dec_i64 h0 h1 hok.1
  rw [hV] at DC
  have TX := Lib.hid (fun w => reftext02_any (x / 16777216) (decA x) (decB x) (decC x) (decN x) w ia ib ic inn)
  rw [hck, if_pos rfl] at TX
  have hM : lineOf at_ x = hexStr at_ ++ ⟨#[32]⟩ ++ hexStr x ++ ⟨#[32]⟩ ++ (if 20 ≤ x / 16777216 ∧ x / 16777216 ≤ 23 then decText x ++ ⟨#[32, 45, 62, 32]⟩ ++ hexStr (leadTo at_ (decN x)) else decText x) := by
    unfold lineOf meanOf
    rw [if_pos hok]
  have HL := Lib.hid (fun w => refhex_any (leadTo at_ (decN x)) w (leadTo_u32 _ _).1 (leadTo_u32 _ _).2)
  have z6 := textOf_size (x / 16777216) (decA x) (decB x) (decC x) (decN x)
  have z7 := hexStr_size (leadTo at_ (decN x))
  have hL : (at_ + 4 + 4 * (decN x % 4294967296)) % 4294967296 = leadTo at_ (decN x) := by unfold leadTo; omega
  rw [show textOf (x / 16777216) (decA x) (decB x) (decC x) (decN x) = decText x from rfl] at TX z6
  rw [show strOfNums (hexNums (leadTo at_ (decN x))) = hexStr (leadTo at_ (decN x)) from rfl] at HL
  have RM := Lib.hid hM
  have LE := Lib.hid hL
  unfold instrV at *
  clear hV hM hok h0 h1 ha hck ia ib ic inn hL
  generalize lineOf at_ x = mv at *
  generalize hexStr (leadTo at_ (decN x)) = hs at *
  generalize leadTo at_ (decN x) = ld at *
  generalize decText x = tx at *
  generalize decA x = a at *
  generalize decB x = b at *
  generalize decC x = c at *
  generalize decN x = n at *
  generalize x / 16777216 = op at *
  generalize hexStr at_ = sa at *
  generalize hexStr x = sx at *
  go_enter Tryd.func45, Tryd.ntmps45
  go_wp2_with fail
  refine (HA.out _).mono ?_
  rintro e w1 ⟨rfl, rfl⟩
  go_wp2_with fail
  refine (HX.out _).mono ?_
  rintro e w2 ⟨rfl, rfl⟩
  go_wp2_with fail
  refine (DC.out _).mono ?_
  rintro e w3 ⟨rfl, hb3⟩
  have B3 := Lib.hid (hb3.alloc hb3.size (.cells #[.int .i64 op, .int .i64 a, .int .i64 b, .int .i64 c, .int .i64 n] 91))
  have Q := Lib.hid (Whole.made w3 91 #[.int .i64 op, .int .i64 a, .int .i64 b, .int .i64 c, .int .i64 n] _ rfl)
  clear hb3
  go_wp2_with fail
  generalize w3.alloc (.cells #[.int .i64 op, .int .i64 a, .int .i64 b, .int .i64 c, .int .i64 n] 91) = V1 at *
  refine (TX.out _).mono ?_
  rintro e w4 ⟨rfl, hb4⟩
  have B4 := Lib.hid (B3.out.trans (hb4.mono B3.out.size))
  have Q2 := Lib.hid (Q.out.below hb4 Q.out.lt)
  have q0 : w4.cell? ⟨w3.heap.size, 0, none⟩ = some (.int .i64 op) := Q2.out.cell 0
  have q4 : w4.cell? ⟨w3.heap.size, 4, none⟩ = some (.int .i64 n) := Q2.out.cell 4
  clear hb4 Q Q2 B3
  have LD := Lib.hid (leads_any op)
  go_wp2_with fail
  refine (LD.out _).mono ?_
  rintro e w5 ⟨rfl, rfl⟩
  by_cases hop : 20 ≤ op ∧ op ≤ 23
  · have R1 := Lib.hid (RM.out.trans (by rw [if_pos hop]))
    have d1 : decide (20 ≤ op ∧ op ≤ 23) = true := decide_eq_true hop
    clear hop
    have z3 : (tx ++ ⟨#[32, 45, 62, 32]⟩ : ByteArray).size ≤ 105 := by
      rw [ByteArray.size_append]
      have h2 : (⟨#[32, 45, 62, 32]⟩ : ByteArray).size = 4 := rfl
      omega
    have z8 : (tx ++ ⟨#[32, 45, 62, 32]⟩ ++ hs : ByteArray).size ≤ 113 := by
      rw [ByteArray.size_append]
      omega
    rw [d1]
    go_wp2_with fail
    rw [LE.out]
    refine (HL.out _).mono ?_
    rintro e w6 ⟨rfl, rfl⟩
    go_wp2_with fail
    go_ret
    exact ⟨by rw [R1.out]; rfl, B4.out⟩
  · have R1 := Lib.hid (RM.out.trans (by rw [if_neg hop]))
    have d1 : decide (20 ≤ op ∧ op ≤ 23) = false := decide_eq_false hop
    clear hop
    rw [d1]
    go_wp2_with fail
    go_ret
    exact ⟨by rw [R1.out]; rfl, B4.out⟩
end Go.Proofs.YtoffagmoaedkbaaDoor

/- The laws of listing: the page's example. -/
namespace Go.Proofs.YtoffagmoaedkbaaDoor
open Go.ChangeShapes Go.WideShapes Go.ChangeAt Go.RowKit
set_option linter.unusedVariables false

theorem line_example : lineOf 4 385875967 = ⟨#[48, 48, 48, 48, 48, 48, 48, 52, 32, 49, 54, 102, 102, 102, 102, 102, 102, 32, 66, 82, 32, 45, 49, 32, 45, 62, 32, 48, 48, 48, 48, 48, 48, 48, 52]⟩ := by
  decide +kernel

set_option maxRecDepth 100000 in
theorem awake06_any (w : World) (hS : ShapesIn w) (hN : NamesIn w) :
    Calls Tryd.prog 21 #[] w fun e w' => e = .returned (.bool true) ∧ Below w.heap.size w w' := by
  have LN := Lib.hid (line_any 4 385875967 w hS hN (by decide) (by decide) (by decide))
  rw [line_example] at LN
  clear hS hN
  go_enter Tryd.func21, Tryd.ntmps21
  go_wp2_with fail
  refine LN.out.mono ?_
  rintro e w1 ⟨rfl, hb1⟩
  have B1 := Lib.hid hb1
  clear hb1
  go_wp2_with fail
  go_ret
  exact ⟨rfl, B1.out⟩
end Go.Proofs.YtoffagmoaedkbaaDoor
