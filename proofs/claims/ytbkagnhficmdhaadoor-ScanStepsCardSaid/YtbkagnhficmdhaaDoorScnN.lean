/- Scan: the program's signs and the answers', side by side: ScanAll, ScanSteps. -/
import Derived.Test.YtbkagnhficmdhaaDoorScnY
import Derived.Test.YtbkagnhficmdhaaDoorScnZ
import Derived.StillTailTactics
namespace Go.Proofs.YtbkagnhficmdhaaDoor
open Go.ChangeShapes Go.WideShapes Go.ChangeAt Go.RowKit
set_option linter.unusedVariables false
set_option linter.unusedSimpArgs false

set_option maxHeartbeats 4000000 in
set_option maxRecDepth 100000 in
theorem is_same (x : Sgn) (w : World) : Calls Tryd.prog 11 #[sgnV x, sgnV x] w fun e w' => e = .returned (.bool true) ∧ Below w.heap.size w w' := by
  have Y := (Whole.made w gsT #[.int .i64 x.kind, .int .i64 x.frm, .int .i64 x.to, .string x.text, .int .i32 x.n] _ rfl).alloc (.cells #[.int .i64 x.kind, .int .i64 x.frm, .int .i64 x.to, .string x.text, .int .i32 x.n] rsT)
  have Z := Whole.made (w.alloc (.cells #[.int .i64 x.kind, .int .i64 x.frm, .int .i64 x.to, .string x.text, .int .i32 x.n] gsT)) rsT #[.int .i64 x.kind, .int .i64 x.frm, .int .i64 x.to, .string x.text, .int .i32 x.n] (w.heap.size + 1) (by simp)
  have y0 := Y.cell 0
  have y1 := Y.cell 1
  have y2 := Y.cell 2
  have y3 := Y.cell 3
  have y4 := Y.cell 4
  have z0 := Z.cell 0
  have z1 := Z.cell 1
  have z2 := Z.cell 2
  have z3 := Z.cell 3
  have z4 := Z.cell 4
  clear Y Z
  have B := Lib.hid (((Below.refl w.heap.size w).alloc (Nat.le_refl _) (.cells #[.int .i64 x.kind, .int .i64 x.frm, .int .i64 x.to, .string x.text, .int .i32 x.n] gsT)).alloc (by simp) (.cells #[.int .i64 x.kind, .int .i64 x.frm, .int .i64 x.to, .string x.text, .int .i32 x.n] rsT))
  go_enter Tryd.func11, Tryd.ntmps11
  go_wp2_with fail
  go_ret
  exact ⟨by simp, B.out⟩

set_option maxHeartbeats 8000000 in
set_option maxRecDepth 100000 in
theorem scanall_walk (w : World) (s : ByteArray) (hm : s.size ≤ maxLen) :
    Calls Tryd.prog 3 #[.string s] w fun e w' => e = .returned (.bool true) ∧ Below w.heap.size w w' := by
  unfold maxLen at hm
  have AW := Lib.hid (awake08_any w)
  by_cases hs : s.size ≤ 70000
  case neg =>
    have d : decide ((70000 : Int) < s.size) = true := decide_eq_true (by omega)
    go_enter Tryd.func3, Tryd.ntmps3
    go_wp2_with fail
    refine AW.out.mono ?_
    rintro e w1 ⟨rfl, hb1⟩
    have B1 := Lib.hid hb1
    clear hb1
    go_wp2_with fail
    go_ret
    exact ⟨rfl, B1.out⟩
  have d : decide ((70000 : Int) < s.size) = false := decide_eq_false (by omega)
  have AL := Lib.hid (fun w => all_any s w (by omega))
  have AR := Lib.hid (fun w => refall_any s w (by omega))
  unfold AllPost at AL AR
  generalize allP s = r at *
  obtain ⟨L, fr, c⟩ := r
  go_enter Tryd.func3, Tryd.ntmps3
  go_wp2_with fail
  refine AW.out.mono ?_
  rintro e w1 ⟨rfl, hb1⟩
  have B1 := Lib.hid hb1
  clear hb1
  go_wp2_with fail
  refine (AL.out _).mono ?_
  rintro e w2 ⟨v, rfl, hB, hO⟩
  have B2 := Lib.hid (B1.out.trans (hB.mono B1.out.size))
  have O2 := Lib.hid hO
  clear hB hO
  go_wp2_with fail
  refine (AR.out _).mono ?_
  rintro e w3 ⟨v', rfl, hB, hO⟩
  have B3 := Lib.hid (B2.out.trans (hB.mono B2.out.size))
  have hnl := own_len hO
  unfold maxLen at hnl
  by_cases hlen : 0 < L.length
  case neg =>
    obtain ⟨A0, c0, rfl⟩ := own_form O2.out
    obtain ⟨A1, c1, rfl⟩ := own_form hO
    obtain rfl : L = [] := List.length_eq_zero_iff.1 (by omega)
    have dF : ((fr : Int) != fr) = false := bne_self_eq_false _
    have dC : (c != c) = false := bne_self_eq_false _
    clear hO hB O2
    go_wp2_with fail
    go_loop [9] (fun i => i = .int .i64 0) (fun _ => 0)
    case atStart => rfl
    case round =>
      subst hrel
      go_wp2_with fail
      go_ret
      exact ⟨rfl, B3.out⟩
  have OP := own_below O2.out hB
  obtain ⟨b, cp, rfl, hr, _⟩ := own_rowAt OP hlen
  obtain ⟨b', cp', rfl, hr', _⟩ := own_rowAt hO hlen
  have RA := Lib.hid hr
  have RB := Lib.hid hr'
  clear hO hB O2 OP hr hr'
  have dF : ((fr : Int) != fr) = false := bne_self_eq_false _
  have dC : (c != c) = false := bne_self_eq_false _
  have dL : ((L.length : Int) != L.length) = false := bne_self_eq_false _
  go_wp2_with fail
  go_loopw [9] (fun i wr => ∃ (pre rest : List Sgn), L = pre ++ rest ∧ i = .int .i64 pre.length ∧ RowAt wr b L ∧ RowAt wr b' L ∧ Below w.heap.size w wr) (fun i _ => L.length - (intOf i).toNat)
  case atStart => exact ⟨[], L, rfl, rfl, RA.out, RB.out, B3.out⟩
  case round =>
    obtain ⟨pre, rest, hL, rfl, hra, hrb, hbr⟩ := hrel
    have RW := Lib.hid hra
    have RV := Lib.hid hrb
    have BW := Lib.hid hbr
    clear hra hrb hbr
    have hwr : w.heap.size ≤ wr.heap.size := BW.out.size
    cases rest with
    | nil =>
      obtain rfl : L = pre := by rw [hL, List.append_nil]
      have dI : decide ((L.length : Int) < L.length) = false := decide_eq_false (by omega)
      clear hL
      go_wp2_with fail
      go_ret
      exact ⟨rfl, BW.out⟩
    | cons x rest =>
      have HL := Lib.hid (show L.length = pre.length + (rest.length + 1) by rw [hL, List.length_append, List.length_cons])
      have dI : (pre.length : Int) < L.length := by have := HL.out; omega
      have HLL := Lib.hid (show L = (pre ++ [x]) ++ rest by rw [hL, List.append_assoc]; rfl)
      have hra : RowAt wr b (pre ++ x :: rest) := hL ▸ RW.out
      have hrb : RowAt wr b' (pre ++ x :: rest) := hL ▸ RV.out
      clear hL
      have c0 : wr.cell? ⟨b, pre.length * 5, none⟩ = some (.int .i64 x.kind) := hra.at (i := 0) (by decide)
      have c1 : wr.cell? ⟨b, pre.length * 5 + 1, none⟩ = some (.int .i64 x.frm) := hra.at (i := 1) (by decide)
      have c2 : wr.cell? ⟨b, pre.length * 5 + 2, none⟩ = some (.int .i64 x.to) := hra.at (i := 2) (by decide)
      have c3 : wr.cell? ⟨b, pre.length * 5 + 3, none⟩ = some (.string x.text) := hra.at (i := 3) (by decide)
      have c4 : wr.cell? ⟨b, pre.length * 5 + 4, none⟩ = some (.int .i32 x.n) := hra.at (i := 4) (by decide)
      have e0 : wr.cell? ⟨b', pre.length * 5, none⟩ = some (.int .i64 x.kind) := hrb.at (i := 0) (by decide)
      have e1 : wr.cell? ⟨b', pre.length * 5 + 1, none⟩ = some (.int .i64 x.frm) := hrb.at (i := 1) (by decide)
      have e2 : wr.cell? ⟨b', pre.length * 5 + 2, none⟩ = some (.int .i64 x.to) := hrb.at (i := 2) (by decide)
      have e3 : wr.cell? ⟨b', pre.length * 5 + 3, none⟩ = some (.string x.text) := hrb.at (i := 3) (by decide)
      have e4 : wr.cell? ⟨b', pre.length * 5 + 4, none⟩ = some (.int .i32 x.n) := hrb.at (i := 4) (by decide)
      clear hra hrb
      go_wp2_with fail
      go_still_tail 8, (by kernel_rfl)
      change wpList _ _ _ _ _ wr.drew
      have RD := Lib.hid (show RowAt wr.drew b L from RW.out.drawn 1)
      have RE := Lib.hid (show RowAt wr.drew b' L from RV.out.drawn 1)
      have BD := Lib.hid (show Below w.heap.size w wr.drew from below_drawn BW.out 1)
      have hwd : w.heap.size ≤ wr.drew.heap.size := BD.out.size
      clear c0 c1 c2 c3 c4 e0 e1 e2 e3 e4
      generalize wr.drew = wd at *
      go_wp2_with fail
      refine (is_same x wd).mono ?_
      rintro e w4 ⟨rfl, hb4⟩
      have R4 := Lib.hid (RD.out.below hb4)
      have S4 := Lib.hid (RE.out.below hb4)
      have B4 := Lib.hid (BD.out.trans (hb4.mono hwd))
      clear hb4
      go_wp2_with fail
      go_roundw
      case rel => exact ⟨pre ++ [x], rest, HLL.out, by simp, R4.out, S4.out, B4.out⟩
      case measure => have := HL.out; simp [intOf]; omega

set_option maxHeartbeats 8000000 in
set_option maxRecDepth 100000 in
theorem steps_walk (w : World) (s : ByteArray) (hm : s.size ≤ maxLen) :
    Calls Tryd.prog 4 #[.string s] w fun e w' => e = .returned (.bool true) ∧ Below w.heap.size w w' := by
  unfold maxLen at hm
  have AW := Lib.hid (awake08_any w)
  by_cases hs : s.size ≤ 2000
  case neg =>
    have d : decide ((2000 : Int) < s.size) = true := decide_eq_true (by omega)
    go_enter Tryd.func4, Tryd.ntmps4
    go_wp2_with fail
    refine AW.out.mono ?_
    rintro e w1 ⟨rfl, hb1⟩
    have B1 := Lib.hid hb1
    clear hb1
    go_wp2_with fail
    go_ret
    exact ⟨rfl, B1.out⟩
  have d : decide ((2000 : Int) < s.size) = false := decide_eq_false (by omega)
  have NW := Lib.hid (fun w => new_any s w (by omega))
  have NX := Lib.hid (fun g a w hQ hk => next_any s g a w hQ (by omega) hk)
  have NR := Lib.hid (fun k w hk => refnext_any s k w (by omega) hk)
  unfold ScPost at NX
  unfold SgnPost at NR
  go_enter Tryd.func4, Tryd.ntmps4
  go_wp2_with fail
  refine AW.out.mono ?_
  rintro e w1 ⟨rfl, hb1⟩
  have B1 := Lib.hid hb1
  clear hb1
  go_wp2_with fail
  refine (NW.out _).mono ?_
  rintro e w2 ⟨g, rfl, hg, hW, hB⟩
  have B2 := Lib.hid (B1.out.trans (hB.mono B1.out.size))
  have W2 := Lib.hid hW
  have hgw : w.heap.size ≤ g := Nat.le_trans B1.out.size hg
  clear hB hW
  go_wp2_with fail
  go_loopw [4, 5] (fun a i wr => ∃ (k n : Nat), k ≤ s.size ∧ n ≤ 300 ∧ a = .int .i64 k ∧ i = .int .i64 n ∧ Whole wr g scT #[.string s, .int .i64 k] ∧ Below w.heap.size w wr) (fun _ i _ => 300 - (intOf i).toNat)
  case atStart => exact ⟨0, 0, Nat.zero_le _, Nat.zero_le _, rfl, rfl, W2.out, B2.out⟩
  case round =>
    obtain ⟨k, n, hk, hn, rfl, rfl, hW, hB⟩ := hrel
    have WW := Lib.hid hW
    have BW := Lib.hid hB
    have hwr : w.heap.size ≤ wr.heap.size := BW.out.size
    clear hW hB
    by_cases hlt : n < 300
    case neg =>
      have dn : decide ((n : Int) < 300) = false := decide_eq_false (by omega)
      go_wp2_with fail
      go_ret
      exact ⟨rfl, BW.out⟩
    have dn : decide ((n : Int) < 300) = true := decide_eq_true (by omega)
    have X1 := Lib.hid (NX.out g k wr WW.out hk)
    have X2 := Lib.hid (fun w => NR.out k w hk)
    obtain ⟨_, _, n3, _⟩ := nextP_ok s hk
    generalize nextP s k = r at *
    obtain ⟨x, c⟩ := r
    go_wp2_with fail
    refine X1.out.mono ?_
    rintro e w3 ⟨rfl, hv, hW⟩
    have W3 := Lib.hid hW
    have B3 := Lib.hid (BW.out.trans (hv.below hgw hwr))
    have hw3 : w.heap.size ≤ w3.heap.size := B3.out.size
    have hg3 : g < w3.heap.size := hW.lt
    clear hv hW X1
    have P3 := Lib.hid (Whole.made w3 gsT #[.int .i64 x.kind, .int .i64 x.frm, .int .i64 x.to, .string x.text, .int .i32 x.n] _ rfl)
    have W4 := Lib.hid (W3.out.alloc (.cells #[.int .i64 x.kind, .int .i64 x.frm, .int .i64 x.to, .string x.text, .int .i32 x.n] gsT))
    have B4 := Lib.hid (B3.out.alloc hw3 (.cells #[.int .i64 x.kind, .int .i64 x.frm, .int .i64 x.to, .string x.text, .int .i32 x.n] gsT))
    have z4 : (w3.alloc (.cells #[.int .i64 x.kind, .int .i64 x.frm, .int .i64 x.to, .string x.text, .int .i32 x.n] gsT)).heap.size = w3.heap.size + 1 := by simp
    go_wp2_with fail
    generalize w3.alloc (.cells #[.int .i64 x.kind, .int .i64 x.frm, .int .i64 x.to, .string x.text, .int .i32 x.n] gsT) = w4 at *
    refine (X2.out _).mono ?_
    rintro e w5 ⟨rfl, hb⟩
    have P5 := Lib.hid (P3.out.below hb (by omega))
    have W5 := Lib.hid (W4.out.below hb (by omega))
    have B5 := Lib.hid (B4.out.trans (hb.mono (by omega)))
    have z5 : w3.heap.size < w5.heap.size := by have := hb.size; omega
    clear hb X2 P3 W4
    have P6 := Lib.hid (P5.out.alloc (.cells #[.int .i64 x.kind, .int .i64 x.frm, .int .i64 x.to, .string x.text, .int .i32 x.n] rsT))
    have Q6 := Lib.hid (Whole.made w5 rsT #[.int .i64 x.kind, .int .i64 x.frm, .int .i64 x.to, .string x.text, .int .i32 x.n] _ rfl)
    have W6 := Lib.hid (W5.out.alloc (.cells #[.int .i64 x.kind, .int .i64 x.frm, .int .i64 x.to, .string x.text, .int .i32 x.n] rsT))
    have B6 := Lib.hid (B5.out.alloc (by omega) (.cells #[.int .i64 x.kind, .int .i64 x.frm, .int .i64 x.to, .string x.text, .int .i32 x.n] rsT))
    have z6 : (w5.alloc (.cells #[.int .i64 x.kind, .int .i64 x.frm, .int .i64 x.to, .string x.text, .int .i32 x.n] rsT)).heap.size = w5.heap.size + 1 := by simp
    have p0 := P6.out.cell 0
    have p1 := P6.out.cell 1
    have p2 := P6.out.cell 2
    have p3 := P6.out.cell 3
    have p4 := P6.out.cell 4
    have q0 := Q6.out.cell 0
    have q1 := Q6.out.cell 1
    have q2 := Q6.out.cell 2
    have q3 := Q6.out.cell 3
    have q4 := Q6.out.cell 4
    have dC : (c != c) = false := bne_self_eq_false _
    go_wp2_with fail
    generalize w5.alloc (.cells #[.int .i64 x.kind, .int .i64 x.frm, .int .i64 x.to, .string x.text, .int .i32 x.n] rsT) = w6 at *
    refine (is_same x w6).mono ?_
    rintro e w7 ⟨rfl, hb⟩
    have W7 := Lib.hid (W6.out.below hb (by omega))
    have B7 := Lib.hid (B6.out.trans (hb.mono (by omega)))
    have r2 : w7.cell? ⟨w5.heap.size, 2, none⟩ = some (.int .i64 x.to) := (Q6.out.below hb (by omega)).cell 2
    clear hb p0 p1 p2 p3 p4 q0 q1 q2 q3 q4
    go_wp2_with fail
    go_roundw
    case rel => exact ⟨x.to, n + 1, n3, by omega, rfl, by go_num, W7.out, B7.out⟩
    case measure => simp [intOf]; omega
end Go.Proofs.YtbkagnhficmdhaaDoor
