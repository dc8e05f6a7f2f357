/- Ranges: the page's example; the law RangesTell. -/
import Derived.Test.YtmahnhghfanhpaaRngC
import Derived.Test.YtmahnhghfanhpaaRngD
import Derived.Test.YtmahnhghfanhpaaRngE
namespace Go.Proofs.Ytmahnhghfanhpaa
open Go.ChangeShapes Go.WideShapes Go.ChangeAt Go.RowKit
set_option linter.unusedVariables false
set_option linter.unusedSimpArgs false

theorem awake_marks : markP (markP (markP [] 0 (-1)) 3 9) 5 (-1) = [⟨0, -1⟩, ⟨3, 9⟩, ⟨5, -1⟩] := by
  have e1 : markP [] 0 (-1) = [⟨0, -1⟩] := mark_push (fun h => h.1 rfl) (fun h => h.1 rfl)
  have e2 : markP [⟨0, -1⟩] 3 9 = [⟨0, -1⟩, ⟨3, 9⟩] := mark_push (fun h => absurd h.2 (by decide)) (fun h => absurd h.2 (by decide))
  have e3 : markP [⟨0, -1⟩, ⟨3, 9⟩] 5 (-1) = [⟨0, -1⟩, ⟨3, 9⟩, ⟨5, -1⟩] := mark_push (fun h => absurd h.2 (by decide)) (fun h => absurd h.2 (by decide))
  rw [e1, e2, e3]

theorem awake_rise : riseS [⟨0, -1⟩, ⟨3, 9⟩, ⟨5, -1⟩] := (rise_iff _).2 ⟨by decide, by decide, trivial⟩

set_option maxHeartbeats 16000000 in
set_option maxRecDepth 100000 in
theorem awake16_any (w : World) : Calls Try.prog 7 #[] w fun e w' => e = .returned (.bool true) ∧ Below w.heap.size w w' := by
  have B0 := Lib.hid ((Below.refl w.heap.size w).alloc (Nat.le_refl _) (.cells #[.slice none 0 0] bdT))
  have D0 := Lib.hid (bd_new w w.heap.size w.heap.size rfl (Nat.le_refl _))
  have L0 := Lib.hid (show ([] : List Sg).length ≤ 0 from Nat.le_refl _)
  go_enter Try.func7, Try.ntmps7
  go_wp2_with fail
  refine (mark_any 0 (-1) w.heap.size w.heap.size _ _ _ D0.out B0.out.size (by have := L0.out; omega)).mono ?_
  rintro e w1 ⟨rfl, hp⟩
  have B1 := Lib.hid (B0.out.trans (hp.below D0.out B0.out.size))
  obtain ⟨h1, hd, _, _⟩ := hp
  have D1 := Lib.hid hd
  have L1 := Lib.hid (Nat.le_trans (mark_len _ 0 (-1)) (Nat.succ_le_succ L0.out))
  clear hd
  go_wp2_with fail
  refine (mark_any 3 9 w.heap.size w.heap.size _ _ _ D1.out B1.out.size (by have := L1.out; omega)).mono ?_
  rintro e w2 ⟨rfl, hp⟩
  have B2 := Lib.hid (B1.out.trans (hp.below D1.out B1.out.size))
  obtain ⟨h2, hd, _, _⟩ := hp
  have D2 := Lib.hid hd
  have L2 := Lib.hid (Nat.le_trans (mark_len _ 3 9) (Nat.succ_le_succ L1.out))
  clear hd
  go_wp2_with fail
  refine (mark_any 5 (-1) w.heap.size w.heap.size _ _ _ D2.out B2.out.size (by have := L2.out; omega)).mono ?_
  rintro e w3 ⟨rfl, hp⟩
  have B3 := Lib.hid (B2.out.trans (hp.below D2.out B2.out.size))
  obtain ⟨h3, hd, _, _⟩ := hp
  have D3 := Lib.hid hd
  have L3 := Lib.hid (Nat.le_trans (mark_len _ 5 (-1)) (Nat.succ_le_succ L2.out))
  clear hd
  rw [awake_marks] at D3
  have LS := Lib.hid (fun y (hb : Below w3.heap.size w3 y) => list_any w.heap.size w.heap.size h3 _ y (D3.out.below hb) (by decide))
  have FD := Lib.hid (fun v x (y : World) (hr : y.ownsRow w3.heap.size sgT 2 v ([⟨0, -1⟩, ⟨3, 9⟩, ⟨5, -1⟩] : List Sg).length (([⟨0, -1⟩, ⟨3, 9⟩, ⟨5, -1⟩] : List Sg).flatMap sgCells)) => show ∃ A c, v = .slice A 3 c ∧ Calls Try.prog 12 #[.slice A 3 c, .int .i64 x] y (fun e w' => e = .returned (.int .i64 (findP (-1) [⟨0, -1⟩, ⟨3, 9⟩, ⟨5, -1⟩] x)) ∧ Below y.heap.size y w') from by
    obtain ⟨A, c, rfl⟩ := row_form hr
    exact ⟨A, c, rfl, find_any A _ c _ x y (LstV.own (k := 2) (fun _ => rfl) (by decide) zSg hr) (by decide) awake_rise⟩)
  clear D0 D1 D2 D3 L0 L1 L2 L3 B0 B1 B2
  go_wp2_with fail
  refine (LS.out _ (Below.refl _ _)).mono ?_
  rintro e w4 ⟨v4, rfl, hb4, ho4⟩
  have B4 := Lib.hid hb4
  obtain ⟨A4, c4, rfl, F4⟩ := FD.out v4 4 w4 ho4
  have F4 := Lib.hid F4
  clear hb4 ho4
  go_wp2_with fail
  refine F4.out.mono ?_
  rintro e w5 ⟨rfl, hb5⟩
  have B5 := Lib.hid (B4.out.trans (hb5.mono B4.out.size))
  rw [show findP (-1) [⟨0, -1⟩, ⟨3, 9⟩, ⟨5, -1⟩] 4 = 9 from rfl]
  clear hb5 F4 B4
  go_wp2_with fail
  refine (LS.out _ B5.out).mono ?_
  rintro e w6 ⟨v6, rfl, hb6, ho6⟩
  have B6 := Lib.hid (B5.out.trans (hb6.mono B5.out.size))
  obtain ⟨A6, c6, rfl, F6⟩ := FD.out v6 5 w6 (row_more ho6 B5.out.size)
  have F6 := Lib.hid F6
  clear hb6 ho6
  go_wp2_with fail
  refine F6.out.mono ?_
  rintro e w7 ⟨rfl, hb7⟩
  have B7 := Lib.hid (B6.out.trans (hb7.mono B6.out.size))
  rw [show findP (-1) [⟨0, -1⟩, ⟨3, 9⟩, ⟨5, -1⟩] 5 = -1 from rfl]
  clear hb7 F6 B6
  go_wp2_with fail
  go_ret
  exact ⟨rfl, B3.out.trans (B7.out.mono B3.out.size)⟩

set_option maxHeartbeats 16000000 in
set_option maxRecDepth 100000 in
theorem tells_walk (W : World) (A : Option Addr) (l : List Sg) (c : Nat) (hO : LstV sgCells W.heap.size W (.slice A l.length c) l) (hm : l.length * 16 ≤ 140737488355328) (n x : Int) :
    Calls Try.prog 3 #[.slice A l.length c, .int .i64 n, .int .i64 x] W fun e w' => e = .returned (.bool true) ∧ Below W.heap.size W w' := by
  have B0 := Lib.hid (Below.refl W.heap.size W)
  have AW := Lib.hid (fun y (_ : Below W.heap.size W y) => awake16_any y)
  have FW := Lib.hid (fun y (hy : Below W.heap.size W y) => few_any A l c _ y (hO.below hy) (by omega))
  have RA := Lib.hid (fun y (hy : Below W.heap.size W y) => right_any A l c _ n y (hO.below hy) (by omega))
  have RB := Lib.hid (fun y (hy : Below W.heap.size W y) => refright_any A l c _ n y (hO.below hy) (by omega))
  have RI := Lib.hid (fun y (hy : Below W.heap.size W y) => rising_any A l c _ y (hO.below hy) (by omega))
  have FB := Lib.hid (fun y (hy : Below W.heap.size W y) => (reffind_any A l c _ x y (hO.below hy) (by omega)).mono (fun e w' h => show e = .returned (.int .i64 (findP (-1) l x)) ∧ Below y.heap.size y w' from ⟨h.1, h.2 ▸ Below.refl _ _⟩))
  have FA := Lib.hid (fun (hr : riseS l) y (hy : Below W.heap.size W y) => find_any A l c _ x y (hO.below hy) (by omega) hr)
  clear hO hm
  generalize decide (rightP l n) = r at *
  generalize findP (-1) l x = f at *
  have dr : (r != r) = false := by simp
  have df : (f == f) = true := by simp
  by_cases hf : FewS l
  case neg =>
    rw [decide_eq_false hf] at FW
    clear hf RA RB RI FA FB
    go_enter Try.func3, Try.ntmps3
    go_wp2_with fail
    refine (AW.out _ B0.out).mono ?_
    rintro e y1 ⟨rfl, hb⟩
    have B1 := Lib.hid (B0.out.trans (hb.mono B0.out.size))
    clear hb
    go_wp2_with fail
    refine (FW.out _ B1.out).mono ?_
    rintro e y2 ⟨rfl, hb⟩
    have B2 := Lib.hid (B1.out.trans (hb.mono B1.out.size))
    clear hb
    go_wp2_with fail
    go_ret
    exact ⟨rfl, B2.out⟩
  rw [decide_eq_true hf] at FW
  clear hf
  by_cases hr : riseS l
  · rw [decide_eq_true hr] at RI
    have FA := Lib.hid (FA.out hr)
    clear hr
    go_enter Try.func3, Try.ntmps3
    go_wp2_with fail
    refine (AW.out _ B0.out).mono ?_
    rintro e y1 ⟨rfl, hb⟩
    have B1 := Lib.hid (B0.out.trans (hb.mono B0.out.size))
    clear hb
    go_wp2_with fail
    refine (FW.out _ B1.out).mono ?_
    rintro e y2 ⟨rfl, hb⟩
    have B2 := Lib.hid (B1.out.trans (hb.mono B1.out.size))
    clear hb
    go_wp2_with fail
    refine (RA.out _ B2.out).mono ?_
    rintro e y3 ⟨rfl, hb⟩
    have B3 := Lib.hid (B2.out.trans (hb.mono B2.out.size))
    clear hb
    go_wp2_with fail
    refine (RB.out _ B3.out).mono ?_
    rintro e y4 ⟨rfl, hb⟩
    have B4 := Lib.hid (B3.out.trans (hb.mono B3.out.size))
    clear hb
    go_wp2_with fail
    refine (RI.out _ B4.out).mono ?_
    rintro e y5 ⟨rfl, hb⟩
    have B5 := Lib.hid (B4.out.trans (hb.mono B4.out.size))
    clear hb
    go_wp2_with fail
    refine (FA.out _ B5.out).mono ?_
    rintro e y6 ⟨rfl, hb⟩
    have B6 := Lib.hid (B5.out.trans (hb.mono B5.out.size))
    clear hb
    go_wp2_with fail
    refine (FB.out _ B6.out).mono ?_
    rintro e y7 ⟨rfl, hb⟩
    have B7 := Lib.hid (B6.out.trans (hb.mono B6.out.size))
    clear hb
    go_wp2_with fail
    go_ret
    exact ⟨rfl, B7.out⟩
  · rw [decide_eq_false hr] at RI
    clear hr FA FB
    go_enter Try.func3, Try.ntmps3
    go_wp2_with fail
    refine (AW.out _ B0.out).mono ?_
    rintro e y1 ⟨rfl, hb⟩
    have B1 := Lib.hid (B0.out.trans (hb.mono B0.out.size))
    clear hb
    go_wp2_with fail
    refine (FW.out _ B1.out).mono ?_
    rintro e y2 ⟨rfl, hb⟩
    have B2 := Lib.hid (B1.out.trans (hb.mono B1.out.size))
    clear hb
    go_wp2_with fail
    refine (RA.out _ B2.out).mono ?_
    rintro e y3 ⟨rfl, hb⟩
    have B3 := Lib.hid (B2.out.trans (hb.mono B2.out.size))
    clear hb
    go_wp2_with fail
    refine (RB.out _ B3.out).mono ?_
    rintro e y4 ⟨rfl, hb⟩
    have B4 := Lib.hid (B3.out.trans (hb.mono B3.out.size))
    clear hb
    go_wp2_with fail
    refine (RI.out _ B4.out).mono ?_
    rintro e y5 ⟨rfl, hb⟩
    have B5 := Lib.hid (B4.out.trans (hb.mono B4.out.size))
    clear hb
    go_wp2_with fail
    go_ret
    exact ⟨rfl, B5.out⟩
end Go.Proofs.Ytmahnhghfanhpaa
