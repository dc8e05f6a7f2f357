/- Emit: Sign, Reg, Jump, putHalves, Number, Push, Pop. -/
import Derived.Test.YtcijjmmckofckaaDoorEmtE
import Derived.Test.YtcijjmmckofckaaDoorWordC
namespace Go.Proofs.YtcijjmmckofckaaDoor
open Go.ChangeShapes Go.WideShapes Go.ChangeAt Go.RowKit
set_option linter.unusedVariables false
set_option linter.unusedSimpArgs false

set_option maxHeartbeats 16000000 in
set_option maxRecDepth 100000 in
theorem sign_any (op a b n : Int) (hop : I64 op) (ha : I64 a) (hb : I64 b) (hn : I64 n) (B g : Nat) (T : Nat → Prop) (N : Nat) (m : Em) (w : World) (h : CdAt w B g T N m) (hN : N ≤ 100000) :
    Calls Tryd.prog 65 #[.pointer (some ⟨g, 0, none⟩), .int .i64 op, .int .i64 a, .int .i64 b, .int .i64 n] w fun e w' => e = .returned (.int .i64 ((putE m ⟨op, a, b, 0, n⟩).L.length - 1)) ∧ CdPost w w' B g T N (putE m ⟨op, a, b, 0, n⟩) := by
  have PU := Lib.hid (put_any ⟨op, a, b, 0, n⟩ ⟨hop, ha, hb, (show I64 (0) from by unfold I64; omega), hn⟩ B g T N m w h hN)
  unfold instrV at PU
  clear h hN hop ha hb hn
  generalize putE m ⟨op, a, b, 0, n⟩ = m2 at *
  go_enter Tryd.func65, Tryd.ntmps65
  go_wp2_with fail
  refine PU.out.mono ?_
  rintro e w1 ⟨rfl, hp⟩
  have HP := Lib.hid hp
  clear hp PU
  go_wp2_with fail
  go_ret
  exact ⟨rfl, HP.out⟩

set_option maxHeartbeats 16000000 in
set_option maxRecDepth 100000 in
theorem reg_any (op a : Int) (hop : I64 op) (ha : I64 a) (B g : Nat) (T : Nat → Prop) (N : Nat) (m : Em) (w : World) (h : CdAt w B g T N m) (hN : N ≤ 100000) :
    Calls Tryd.prog 13 #[.pointer (some ⟨g, 0, none⟩), .int .i64 op, .int .i64 a] w fun e w' => e = .returned (.int .i64 ((putE m ⟨op, a, 0, 0, 0⟩).L.length - 1)) ∧ CdPost w w' B g T N (putE m ⟨op, a, 0, 0, 0⟩) := by
  have PU := Lib.hid (put_any ⟨op, a, 0, 0, 0⟩ ⟨hop, ha, (show I64 (0) from by unfold I64; omega), (show I64 (0) from by unfold I64; omega), (show I64 (0) from by unfold I64; omega)⟩ B g T N m w h hN)
  unfold instrV at PU
  clear h hN hop ha
  generalize putE m ⟨op, a, 0, 0, 0⟩ = m2 at *
  go_enter Tryd.func13, Tryd.ntmps13
  go_wp2_with fail
  refine PU.out.mono ?_
  rintro e w1 ⟨rfl, hp⟩
  have HP := Lib.hid hp
  clear hp PU
  go_wp2_with fail
  go_ret
  exact ⟨rfl, HP.out⟩

set_option maxHeartbeats 16000000 in
set_option maxRecDepth 100000 in
theorem jump_any (op a : Int) (hop : I64 op) (ha : I64 a) (B g : Nat) (T : Nat → Prop) (N : Nat) (m : Em) (w : World) (h : CdAt w B g T N m) (hN : N ≤ 100000) :
    Calls Tryd.prog 14 #[.pointer (some ⟨g, 0, none⟩), .int .i64 op, .int .i64 a] w fun e w' => e = .returned (.int .i64 ((putE m ⟨op, a, 0, 0, 0⟩).L.length - 1)) ∧ CdPost w w' B g T N (putE m ⟨op, a, 0, 0, 0⟩) := by
  have PU := Lib.hid (put_any ⟨op, a, 0, 0, 0⟩ ⟨hop, ha, (show I64 (0) from by unfold I64; omega), (show I64 (0) from by unfold I64; omega), (show I64 (0) from by unfold I64; omega)⟩ B g T N m w h hN)
  unfold instrV at PU
  clear h hN hop ha
  generalize putE m ⟨op, a, 0, 0, 0⟩ = m2 at *
  go_enter Tryd.func14, Tryd.ntmps14
  go_wp2_with fail
  refine PU.out.mono ?_
  rintro e w1 ⟨rfl, hp⟩
  have HP := Lib.hid hp
  clear hp PU
  go_wp2_with fail
  go_ret
  exact ⟨rfl, HP.out⟩

set_option maxHeartbeats 16000000 in
set_option maxRecDepth 100000 in
theorem halves_any (a hi lo : Int) (ha : I64 a) (hh : I64 hi) (hl : I64 lo) (B g : Nat) (T : Nat → Prop) (N : Nat) (m : Em) (w : World) (h : CdAt w B g T N m) (hN : N ≤ 100000) :
    Calls Tryd.prog 33 #[.pointer (some ⟨g, 0, none⟩), .int .i64 a, .int .i64 hi, .int .i64 lo] w fun e w' => e = .returned (.tuple #[]) ∧ CdPost w w' B g T (N) (halfE m a hi lo) := by
  have P1 := Lib.hid (put_any ⟨3, a, 0, 0, hi⟩ ⟨(show I64 (3) from by unfold I64; omega), ha, (show I64 (0) from by unfold I64; omega), (show I64 (0) from by unfold I64; omega), hh⟩ B g T N m w h hN)
  have Q2 := Lib.hid (fun T y (h : CdAt y B g T N (putE m ⟨3, a, 0, 0, hi⟩)) => put_any ⟨4, a, a, 0, lo⟩ ⟨(show I64 (4) from by unfold I64; omega), ha, ha, (show I64 (0) from by unfold I64; omega), hl⟩ B g T N (putE m ⟨3, a, 0, 0, hi⟩) y h hN)
  unfold halfE
  clear h hN
  try unfold instrV at P1
  try unfold instrV at Q2
  generalize putE (putE m ⟨3, a, 0, 0, hi⟩) ⟨4, a, a, 0, lo⟩ = m2 at *
  generalize putE m ⟨3, a, 0, 0, hi⟩ = m1 at *
  go_enter Tryd.func33, Tryd.ntmps33
  go_wp2_with fail
  refine P1.out.mono ?_
  rintro e y1 ⟨rfl, T1, hc, hk, ht⟩
  have C1 := Lib.hid hc
  have K1 := Lib.hid hk
  have O1 := Lib.hid ht
  clear hc hk ht P1
  have P2 := Lib.hid (Q2.out T1 y1 C1.out)
  clear Q2 C1
  go_wp2_with fail
  refine P2.out.mono ?_
  rintro e y2 ⟨rfl, T2, hc, hk, ht⟩
  have C2 := Lib.hid hc
  have K2 := Lib.hid hk
  have O2 := Lib.hid ht
  clear hc hk ht P2
  go_wp2_with fail
  first | go_end0 | refine bodyPost_ret (results_none rfl _ _ _) rfl ?_
  exact ⟨rfl, CdPM.trans K1.out O1.out ⟨T2, C2.out, K2.out, O2.out⟩⟩

set_option maxHeartbeats 16000000 in
set_option maxRecDepth 100000 in
theorem push_any (a : Int) (ha : I64 a) (B g : Nat) (T : Nat → Prop) (N : Nat) (m : Em) (w : World) (h : CdAt w B g T N m) (hN : N ≤ 100000) :
    Calls Tryd.prog 51 #[.pointer (some ⟨g, 0, none⟩), .int .i64 a] w fun e w' => e = .returned (.tuple #[]) ∧ CdPost w w' B g T (N + 1) (pushE m a) := by
  have P1 := Lib.hid (sign_any 5 15 15 (-4) (by unfold I64; omega) (by unfold I64; omega) (by unfold I64; omega) (by unfold I64; omega) B g T N m w h hN)
  have Q2 := Lib.hid (fun T y (h : CdAt y B g T N (putE m ⟨5, 15, 15, 0, -4⟩)) => sign_any 19 a 15 0 (by unfold I64; omega) ha (by unfold I64; omega) (by unfold I64; omega) B g T N (putE m ⟨5, 15, 15, 0, -4⟩) y h hN)
  have Q3 := Lib.hid (fun T y (h : CdAt y B g T N (putE (putE m ⟨5, 15, 15, 0, -4⟩) ⟨19, a, 15, 0, 0⟩)) => drop_any (-1) B g T N _ (putE (putE m ⟨5, 15, 15, 0, -4⟩) ⟨19, a, 15, 0, 0⟩) y h (by omega) (by omega) hN)
  unfold pushE
  clear h hN
  try unfold instrV at P1
  try unfold instrV at Q2
  generalize putE (putE m ⟨5, 15, 15, 0, -4⟩) ⟨19, a, 15, 0, 0⟩ = m2 at *
  generalize putE m ⟨5, 15, 15, 0, -4⟩ = m1 at *
  go_enter Tryd.func51, Tryd.ntmps51
  go_wp2_with fail
  refine P1.out.mono ?_
  rintro e y1 ⟨rfl, T1, hc, hk, ht⟩
  have C1 := Lib.hid hc
  have K1 := Lib.hid hk
  have O1 := Lib.hid ht
  clear hc hk ht P1
  have P2 := Lib.hid (Q2.out T1 y1 C1.out)
  clear Q2 C1
  go_wp2_with fail
  refine P2.out.mono ?_
  rintro e y2 ⟨rfl, T2, hc, hk, ht⟩
  have C2 := Lib.hid hc
  have K2 := Lib.hid hk
  have O2 := Lib.hid ht
  clear hc hk ht P2
  have P3 := Lib.hid (Q3.out T2 y2 C2.out)
  clear Q3 C2
  go_wp2_with fail
  refine P3.out.mono ?_
  rintro e y3 ⟨rfl, T3, hc, hk, ht⟩
  have C3 := Lib.hid hc
  have K3 := Lib.hid hk
  have O3 := Lib.hid ht
  clear hc hk ht P3
  go_wp2_with fail
  first | go_end0 | refine bodyPost_ret (results_none rfl _ _ _) rfl ?_
  exact ⟨rfl, CdPM.trans K1.out O1.out (CdPM.trans K2.out O2.out ⟨T3, C3.out, K3.out, O3.out⟩)⟩

set_option maxHeartbeats 16000000 in
set_option maxRecDepth 100000 in
theorem pop_any (a : Int) (ha : I64 a) (B g : Nat) (T : Nat → Prop) (N : Nat) (m : Em) (w : World) (h : CdAt w B g T N m) (hN : N ≤ 100000) :
    Calls Tryd.prog 53 #[.pointer (some ⟨g, 0, none⟩), .int .i64 a] w fun e w' => e = .returned (.tuple #[]) ∧ CdPost w w' B g T (N + 1) (popE m a) := by
  have P1 := Lib.hid (sign_any 18 a 15 0 (by unfold I64; omega) ha (by unfold I64; omega) (by unfold I64; omega) B g T N m w h hN)
  have Q2 := Lib.hid (fun T y (h : CdAt y B g T N (putE m ⟨18, a, 15, 0, 0⟩)) => sign_any 5 15 15 4 (by unfold I64; omega) (by unfold I64; omega) (by unfold I64; omega) (by unfold I64; omega) B g T N (putE m ⟨18, a, 15, 0, 0⟩) y h hN)
  have Q3 := Lib.hid (fun T y (h : CdAt y B g T N (putE (putE m ⟨18, a, 15, 0, 0⟩) ⟨5, 15, 15, 0, 4⟩)) => drop_any 1 B g T N _ (putE (putE m ⟨18, a, 15, 0, 0⟩) ⟨5, 15, 15, 0, 4⟩) y h (by omega) (by omega) hN)
  unfold popE
  clear h hN
  try unfold instrV at P1
  try unfold instrV at Q2
  generalize putE (putE m ⟨18, a, 15, 0, 0⟩) ⟨5, 15, 15, 0, 4⟩ = m2 at *
  generalize putE m ⟨18, a, 15, 0, 0⟩ = m1 at *
  go_enter Tryd.func53, Tryd.ntmps53
  go_wp2_with fail
  refine P1.out.mono ?_
  rintro e y1 ⟨rfl, T1, hc, hk, ht⟩
  have C1 := Lib.hid hc
  have K1 := Lib.hid hk
  have O1 := Lib.hid ht
  clear hc hk ht P1
  have P2 := Lib.hid (Q2.out T1 y1 C1.out)
  clear Q2 C1
  go_wp2_with fail
  refine P2.out.mono ?_
  rintro e y2 ⟨rfl, T2, hc, hk, ht⟩
  have C2 := Lib.hid hc
  have K2 := Lib.hid hk
  have O2 := Lib.hid ht
  clear hc hk ht P2
  have P3 := Lib.hid (Q3.out T2 y2 C2.out)
  clear Q3 C2
  go_wp2_with fail
  refine P3.out.mono ?_
  rintro e y3 ⟨rfl, T3, hc, hk, ht⟩
  have C3 := Lib.hid hc
  have K3 := Lib.hid hk
  have O3 := Lib.hid ht
  clear hc hk ht P3
  go_wp2_with fail
  first | go_end0 | refine bodyPost_ret (results_none rfl _ _ _) rfl ?_
  exact ⟨rfl, CdPM.trans K1.out O1.out (CdPM.trans K2.out O2.out ⟨T3, C3.out, K3.out, O3.out⟩)⟩

set_option maxHeartbeats 16000000 in
set_option maxRecDepth 100000 in
theorem enumber_any (a n : Int) (ha : I64 a) (h1 : -2147483648 ≤ n) (h2 : n ≤ 2147483647) (B g : Nat) (T : Nat → Prop) (N : Nat) (m : Em) (w : World) (h : CdAt w B g T N m) (hN : N ≤ 100000) :
    Calls Tryd.prog 15 #[.pointer (some ⟨g, 0, none⟩), .int .i64 a, .int .i32 n] w fun e w' => e = .returned (.tuple #[]) ∧ CdPost w w' B g T N (numE m a n) := by
  have FT := Lib.hid (fits_any n 16 w (by omega) (by omega) (by omega) (by omega))
  rw [fitB_16] at FT
  unfold numE
  by_cases hf : -32768 ≤ n ∧ n ≤ 32767
  · rw [if_pos hf]
    rw [show (decide (-32768 ≤ n) && decide (n ≤ 32767)) = true from by rw [decide_eq_true hf.1, decide_eq_true hf.2]; rfl] at FT
    have PU := Lib.hid (put_any ⟨2, a, 0, 0, n⟩ ⟨(show I64 (2) from by unfold I64; omega), ha, (show I64 (0) from by unfold I64; omega), (show I64 (0) from by unfold I64; omega), (show I64 (n) from by unfold I64; omega)⟩ B g T N m w h hN)
    unfold instrV at PU
    clear h hN hf
    generalize putE m ⟨2, a, 0, 0, n⟩ = m2 at *
    go_enter Tryd.func15, Tryd.ntmps15
    go_wp2_with fail
    refine FT.out.mono ?_
    rintro e w1 ⟨rfl, rfl⟩
    go_wp2_with fail
    refine PU.out.mono ?_
    rintro e w1 ⟨rfl, hp⟩
    have HP := Lib.hid hp
    clear hp PU FT
    go_wp2_with fail
    first | go_end0 | refine bodyPost_ret (results_none rfl _ _ _) rfl ?_
    exact ⟨rfl, HP.out⟩
  · rw [if_neg hf]
    rw [show (decide (-32768 ≤ n) && decide (n ≤ 32767)) = false from by
      rw [Bool.and_eq_false_iff, decide_eq_false_iff_not, decide_eq_false_iff_not]
      omega] at FT
    have HV := Lib.hid (halves_any a (n % 4294967296 / 65536) (n % 65536) ha (by unfold I64; omega) (by unfold I64; omega) B g T N m w h hN)
    have WL := Lib.hid (show wrap64 (bits .and .u32 (n % 4294967296) 65535) = n % 65536 from by
      rw [and_mask16]
      unfold wrap64
      omega)
    clear h hN hf
    generalize halfE m a (n % 4294967296 / 65536) (n % 65536) = m2 at *
    go_enter Tryd.func15, Tryd.ntmps15
    go_wp2_with fail
    refine FT.out.mono ?_
    rintro e w1 ⟨rfl, rfl⟩
    go_wp2_with fail
    rw [WL.out]
    refine HV.out.mono ?_
    rintro e w1 ⟨rfl, hp⟩
    have HP := Lib.hid hp
    clear hp HV FT
    go_wp2_with fail
    first | go_end0 | refine bodyPost_ret (results_none rfl _ _ _) rfl ?_
    exact ⟨rfl, HP.out⟩
end Go.Proofs.YtcijjmmckofckaaDoor
