/- Scan: two texts with a blank between them: ScanJoins. -/
import Derived.Test.YtbkagnhficmdhaaDoorScnL
import Derived.Test.YtbkagnhficmdhaaDoorScnZ
import Derived.Test.YtbkagnhficmdhaaDoorScnY
import Derived.BigQuiet
import Derived.Deep.QuietTactic
namespace Go.Proofs.YtbkagnhficmdhaaDoor
open Go.ChangeShapes Go.WideShapes Go.ChangeAt Go.RowKit
set_option linter.unusedVariables false
set_option linter.unusedSimpArgs false

theorem cover_mem {s : ByteArray} : ∀ {l : List Sgn} {k : Nat}, CoverL s k l → ∀ x ∈ l, x.frm ≤ x.to ∧ x.to ≤ s.size
  | [], _, h, x, hx => by cases hx
  | y :: l, k, h, x, hx => by
    obtain ⟨hf, ht⟩ := cover_head h
    rcases List.mem_cons.1 hx with rfl | hx
    · exact ⟨hf.2.1, hf.2.2.1⟩
    · rcases ht with ⟨_, rfl⟩ | ⟨_, _, h2⟩
      · cases hx
      · exact cover_mem h2 x hx

theorem list_split {α : Type} (l : List α) {m : Nat} (h : m < l.length) : ∃ p x r, l = p ++ x :: r ∧ p.length = m :=
  ⟨l.take m, l[m], l.drop (m + 1), by rw [List.getElem_cons_drop, List.take_append_drop], by rw [List.length_take]; omega⟩

theorem RowAt.on {w : World} {b : Nat} {L p r : List Sgn} {x : Sgn} {m : Nat} (h : RowAt w b L) (hL : L = p ++ x :: r) (hm : p.length = m) {i : Nat} (hi : i < 5) : w.cell? ⟨b, m * 5 + i, none⟩ = x.cells[i]? := by
  subst hL hm
  exact h.at hi

set_option maxHeartbeats 8000000 in
set_option maxRecDepth 100000 in
theorem joins_walk (w : World) (a b : ByteArray) (hma : a.size ≤ maxLen) (hmb : b.size ≤ maxLen) :
    Calls Tryd.prog 7 #[.string a, .string b] w fun e w' => e = .returned (.bool true) ∧ Below w.heap.size w w' := by
  unfold maxLen at hma hmb
  have AW := Lib.hid (awake08_any w)
  by_cases ha : a.size ≤ 2000
  case neg =>
    have d : decide ((2000 : Int) < a.size) = true := decide_eq_true (by omega)
    go_enter Tryd.func7, Tryd.ntmps7
    go_wp2_with fail
    refine AW.out.mono ?_
    rintro e w1 ⟨rfl, hb1⟩
    have B1 := Lib.hid hb1
    clear hb1
    go_wp2_with fail
    go_ret
    exact ⟨rfl, B1.out⟩
  have da : decide ((2000 : Int) < a.size) = false := decide_eq_false (by omega)
  by_cases hb : b.size ≤ 2000
  case neg =>
    have d : decide ((2000 : Int) < b.size) = true := decide_eq_true (by omega)
    go_enter Tryd.func7, Tryd.ntmps7
    go_wp2_with fail
    refine AW.out.mono ?_
    rintro e w1 ⟨rfl, hb1⟩
    have B1 := Lib.hid hb1
    clear hb1
    go_wp2_with fail
    go_ret
    exact ⟨rfl, B1.out⟩
  have db : decide ((2000 : Int) < b.size) = false := decide_eq_false (by omega)
  have HZ := Lib.hid (both_size a b)
  have AA := Lib.hid (fun w => all_any a w (by omega))
  have AB := Lib.hid (fun w => all_any b w (by omega))
  have AC := Lib.hid (fun w => all_any (both a b) w (by rw [both_size]; omega))
  have HB := Lib.hid (fun h1 h2 => all_both ha hb h1 h2)
  have CB := Lib.hid (allP_cover b).2
  unfold AllPost at AA AB AC
  generalize allP a = ra at *
  generalize allP b = rb at *
  generalize allP (both a b) = rc at *
  obtain ⟨LA, fa, ca⟩ := ra
  obtain ⟨LB, fb, cb⟩ := rb
  obtain ⟨LC, fc, cc⟩ := rc
  unfold both at AC
  clear HZ
  go_enter Tryd.func7, Tryd.ntmps7
  go_wp2_with fail
  refine AW.out.mono ?_
  rintro e w1 ⟨rfl, hb1⟩
  have B1 := Lib.hid hb1
  clear hb1
  go_wp2_with fail
  refine (AA.out _).mono ?_
  rintro e w2 ⟨va, rfl, hB, hO⟩
  have B2 := Lib.hid (B1.out.trans (hB.mono B1.out.size))
  have OA2 := Lib.hid hO
  clear hB hO
  go_wp2_with fail
  refine (AB.out _).mono ?_
  rintro e w3 ⟨vb, rfl, hB, hO⟩
  have B3 := Lib.hid (B2.out.trans (hB.mono B2.out.size))
  have OA3 := Lib.hid (own_below OA2.out hB)
  have OB3 := Lib.hid hO
  clear hB hO OA2
  go_wp2_with fail
  refine (AC.out _).mono ?_
  rintro e w4 ⟨vc, rfl, hB, hO⟩
  have B4 := Lib.hid (B3.out.trans (hB.mono B3.out.size))
  have OA := Lib.hid (own_below OA3.out hB)
  have OB := Lib.hid (own_below OB3.out hB)
  have OC := Lib.hid hO
  clear hB hO OA3 OB3 AA AB AC
  by_cases hca : ca = 0
  case neg =>
    have dca : (ca != 0) = true := by rw [bne, beq_eq_false_iff_ne.2 hca]; rfl
    go_wp2_with fail
    go_ret
    exact ⟨rfl, B4.out⟩
  subst hca
  have dca : ((0 : Int) != 0) = false := rfl
  by_cases hcb : cb = 0
  case neg =>
    have dcb : (cb != 0) = true := by rw [bne, beq_eq_false_iff_ne.2 hcb]; rfl
    go_wp2_with fail
    go_ret
    exact ⟨rfl, B4.out⟩
  subst hcb
  obtain ⟨pre, en, e1, e2⟩ := HB.out rfl rfl
  have hcv : CoverL b 0 LB := CB.out rfl
  have MB := Lib.hid (fun x hx => cover_mem hcv x hx)
  have hLB := cover_pos hcv
  obtain rfl : LA = pre ++ [en] := e1
  obtain ⟨rfl, rfl, rfl⟩ : LC = pre ++ LB.map (shf (a.size + 1)) ∧ fc = 0 ∧ cc = 0 := by
    injection e2 with h1 h2
    injection h2 with h2 h3
    exact ⟨h1, h2, h3⟩
  clear HB CB e2 hcv
  have hla : (pre ++ [en]).length = pre.length + 1 := by rw [List.length_append]; rfl
  have hlc : (pre ++ LB.map (shf (a.size + 1))).length = pre.length + LB.length := by rw [List.length_append, List.length_map]
  have hma' := own_len OA.out
  have hmb' := own_len OB.out
  have hmc' := own_len OC.out
  obtain ⟨ba, pa, rfl, ra, _⟩ := own_rowAt OA.out (by omega)
  obtain ⟨bb, pb, rfl, rb, _⟩ := own_rowAt OB.out hLB
  obtain ⟨bc, pc, rfl, rc, _⟩ := own_rowAt OC.out (by omega)
  have RA := Lib.hid ra
  have RB := Lib.hid rb
  have RC := Lib.hid rc
  clear ra rb rc OA OB OC
  rw [hla, hlc] at *
  unfold maxLen at hma' hmb' hmc'
  generalize hnA : pre.length + 1 = nA at *
  generalize hnC : pre.length + LB.length = nC at *
  generalize hnB : LB.length = nB at *
  have HA := Lib.hid hnA
  have HB := Lib.hid hnB
  have HC := Lib.hid hnC
  have dl1 : decide ((nA : Int) < 1) = false := decide_eq_false (by omega)
  have dl2 : ((nC : Int) != (nA : Int) - 1 + nB) = false := by rw [bne, beq_iff_eq.2 (by omega)]; rfl
  have hnA1 : (1 : Int) ≤ nA := by omega
  have hAB : (nA : Int) - 1 + nB ≤ 2 ^ 63 - 1 := by omega
  clear hnA hnB hnC hla hlc hLB
  go_wp2_with fail
  go_loopw [14] (fun i wr => ∃ m : Nat, m ≤ nC ∧ i = .int .i64 m ∧ RowAt wr ba (pre ++ [en]) ∧ RowAt wr bb LB ∧ RowAt wr bc (pre ++ LB.map (shf (a.size + 1))) ∧ Below w.heap.size w wr) (fun i _ => nC - (intOf i).toNat)
  case atStart => exact ⟨0, Nat.zero_le _, rfl, RA.out, RB.out, RC.out, B4.out⟩
  case round =>
    obtain ⟨m, hm, rfl, hra, hrb, hrc, hbw⟩ := hrel
    have RA := Lib.hid hra
    have RB := Lib.hid hrb
    have RC := Lib.hid hrc
    have BW := Lib.hid hbw
    clear hra hrb hrc hbw
    have hwr : w.heap.size ≤ wr.heap.size := BW.out.size
    by_cases hlt : m < nC
    case neg =>
      have dI : decide ((m : Int) < nC) = false := decide_eq_false (by omega)
      go_wp2_with fail
      go_ret
      exact ⟨rfl, BW.out⟩
    have dI : (m : Int) < nC := by omega
    have dI0 : decide (m < nC) = true := decide_eq_true hlt
    by_cases hfst : m < pre.length
    · have hA := HA.out
      have dJ : decide ((m : Int) < (nA : Int) - 1) = true := decide_eq_true (by omega)
      have dK : (m : Int) < nA := by omega
      obtain ⟨p1, x, p2, hp, hpl⟩ := list_split pre hfst
      have e1 : pre ++ [en] = p1 ++ x :: (p2 ++ [en]) := by rw [hp, List.append_assoc]; rfl
      have e2 : pre ++ LB.map (shf (a.size + 1)) = p1 ++ x :: (p2 ++ LB.map (shf (a.size + 1))) := by rw [hp, List.append_assoc]; rfl
      have c0 : wr.cell? ⟨ba, m * 5, none⟩ = some (.int .i64 x.kind) := RA.out.on e1 hpl (i := 0) (by decide)
      have c1 : wr.cell? ⟨ba, m * 5 + 1, none⟩ = some (.int .i64 x.frm) := RA.out.on e1 hpl (i := 1) (by decide)
      have c2 : wr.cell? ⟨ba, m * 5 + 2, none⟩ = some (.int .i64 x.to) := RA.out.on e1 hpl (i := 2) (by decide)
      have c3 : wr.cell? ⟨ba, m * 5 + 3, none⟩ = some (.string x.text) := RA.out.on e1 hpl (i := 3) (by decide)
      have c4 : wr.cell? ⟨ba, m * 5 + 4, none⟩ = some (.int .i32 x.n) := RA.out.on e1 hpl (i := 4) (by decide)
      have z0 : wr.cell? ⟨bc, m * 5, none⟩ = some (.int .i64 x.kind) := RC.out.on e2 hpl (i := 0) (by decide)
      have z1 : wr.cell? ⟨bc, m * 5 + 1, none⟩ = some (.int .i64 x.frm) := RC.out.on e2 hpl (i := 1) (by decide)
      have z2 : wr.cell? ⟨bc, m * 5 + 2, none⟩ = some (.int .i64 x.to) := RC.out.on e2 hpl (i := 2) (by decide)
      have z3 : wr.cell? ⟨bc, m * 5 + 3, none⟩ = some (.string x.text) := RC.out.on e2 hpl (i := 3) (by decide)
      have z4 : wr.cell? ⟨bc, m * 5 + 4, none⟩ = some (.int .i32 x.n) := RC.out.on e2 hpl (i := 4) (by decide)
      clear e1 e2 hp hpl hA hfst
      go_wp2_with fail
      go_quiet (fail)
      go_wp2_with fail
      go_roundw
      case rel => exact ⟨m + 1, by omega, by go_num, RA.out.drawn _, RB.out.drawn _, RC.out.drawn _, below_drawn BW.out _⟩
      case measure => simp [intOf]; omega
    · have hA := HA.out
      have hB := HB.out
      have hC := HC.out
      obtain ⟨q, hq⟩ : ∃ q, q = m - pre.length := ⟨_, rfl⟩
      have dJ : decide ((m : Int) < (nA : Int) - 1) = false := decide_eq_false (by omega)
      have dQ : (m : Int) - nA + 1 = q := by omega
      have dQ1 : (q : Int) < nB := by omega
      obtain ⟨p1, y, p2, hp, hpl⟩ := list_split LB (show q < LB.length by omega)
      obtain ⟨hy1, hy2⟩ := MB.out y (by rw [hp]; simp)
      have e1 : LB = p1 ++ y :: p2 := hp
      have e2 : pre ++ LB.map (shf (a.size + 1)) = (pre ++ p1.map (shf (a.size + 1))) ++ shf (a.size + 1) y :: p2.map (shf (a.size + 1)) := by rw [hp, List.map_append, List.map_cons, List.append_assoc]
      have hpm : (pre ++ p1.map (shf (a.size + 1))).length = m := by rw [List.length_append, List.length_map]; omega
      have ez1 : ((a.size + 1 + y.frm : Nat) : Int) = (y.frm : Int) + a.size + 1 := by omega
      have ez2 : ((a.size + 1 + y.to : Nat) : Int) = (y.to : Int) + a.size + 1 := by omega
      have c0 : wr.cell? ⟨bb, q * 5, none⟩ = some (.int .i64 y.kind) := RB.out.on e1 hpl (i := 0) (by decide)
      have c1 : wr.cell? ⟨bb, q * 5 + 1, none⟩ = some (.int .i64 y.frm) := RB.out.on e1 hpl (i := 1) (by decide)
      have c2 : wr.cell? ⟨bb, q * 5 + 2, none⟩ = some (.int .i64 y.to) := RB.out.on e1 hpl (i := 2) (by decide)
      have c3 : wr.cell? ⟨bb, q * 5 + 3, none⟩ = some (.string y.text) := RB.out.on e1 hpl (i := 3) (by decide)
      have c4 : wr.cell? ⟨bb, q * 5 + 4, none⟩ = some (.int .i32 y.n) := RB.out.on e1 hpl (i := 4) (by decide)
      have z0 : (wr.alloc (.cells #[.int .i64 y.kind, .int .i64 ((y.frm : Int) + a.size + 1), .int .i64 ((y.to : Int) + a.size + 1), .string y.text, .int .i32 y.n] gsT)).cell? ⟨bc, m * 5, none⟩ = some (.int .i64 y.kind) := ((RC.out.alloc _).on e2 hpm (i := 0) (by decide)).trans (rfl)
      have z1 : (wr.alloc (.cells #[.int .i64 y.kind, .int .i64 ((y.frm : Int) + a.size + 1), .int .i64 ((y.to : Int) + a.size + 1), .string y.text, .int .i32 y.n] gsT)).cell? ⟨bc, m * 5 + 1, none⟩ = some (.int .i64 ((y.frm : Int) + a.size + 1)) := ((RC.out.alloc _).on e2 hpm (i := 1) (by decide)).trans (by show some (Value.int .i64 ((a.size + 1 + y.frm : Nat) : Int)) = _; rw [ez1])
      have z2 : (wr.alloc (.cells #[.int .i64 y.kind, .int .i64 ((y.frm : Int) + a.size + 1), .int .i64 ((y.to : Int) + a.size + 1), .string y.text, .int .i32 y.n] gsT)).cell? ⟨bc, m * 5 + 2, none⟩ = some (.int .i64 ((y.to : Int) + a.size + 1)) := ((RC.out.alloc _).on e2 hpm (i := 2) (by decide)).trans (by show some (Value.int .i64 ((a.size + 1 + y.to : Nat) : Int)) = _; rw [ez2])
      have z3 : (wr.alloc (.cells #[.int .i64 y.kind, .int .i64 ((y.frm : Int) + a.size + 1), .int .i64 ((y.to : Int) + a.size + 1), .string y.text, .int .i32 y.n] gsT)).cell? ⟨bc, m * 5 + 3, none⟩ = some (.string y.text) := ((RC.out.alloc _).on e2 hpm (i := 3) (by decide)).trans (rfl)
      have z4 : (wr.alloc (.cells #[.int .i64 y.kind, .int .i64 ((y.frm : Int) + a.size + 1), .int .i64 ((y.to : Int) + a.size + 1), .string y.text, .int .i32 y.n] gsT)).cell? ⟨bc, m * 5 + 4, none⟩ = some (.int .i32 y.n) := ((RC.out.alloc _).on e2 hpm (i := 4) (by decide)).trans (rfl)
      have Y := Whole.made wr gsT #[.int .i64 y.kind, .int .i64 ((y.frm : Int) + a.size + 1), .int .i64 ((y.to : Int) + a.size + 1), .string y.text, .int .i32 y.n] _ rfl
      have y0 := Y.cell 0
      have y1 := Y.cell 1
      have y2 := Y.cell 2
      have y3 := Y.cell 3
      have y4 := Y.cell 4
      have RA1 := Lib.hid (RA.out.alloc (.cells #[.int .i64 y.kind, .int .i64 ((y.frm : Int) + a.size + 1), .int .i64 ((y.to : Int) + a.size + 1), .string y.text, .int .i32 y.n] gsT))
      have RB1 := Lib.hid (RB.out.alloc (.cells #[.int .i64 y.kind, .int .i64 ((y.frm : Int) + a.size + 1), .int .i64 ((y.to : Int) + a.size + 1), .string y.text, .int .i32 y.n] gsT))
      have RC1 := Lib.hid (RC.out.alloc (.cells #[.int .i64 y.kind, .int .i64 ((y.frm : Int) + a.size + 1), .int .i64 ((y.to : Int) + a.size + 1), .string y.text, .int .i32 y.n] gsT))
      have BW1 := Lib.hid (BW.out.alloc hwr (.cells #[.int .i64 y.kind, .int .i64 ((y.frm : Int) + a.size + 1), .int .i64 ((y.to : Int) + a.size + 1), .string y.text, .int .i32 y.n] gsT))
      have g1 : (y.frm : Int) ≤ 2000 := by omega
      have g2 : (y.to : Int) ≤ 2000 := by omega
      clear Y e1 e2 hp hpl hpm ez1 ez2 hA hB hC hq hfst
      go_wp2_with fail
      go_quiet (fail)
      go_wp2_with fail
      go_roundw
      case rel => exact ⟨m + 1, by omega, by go_num, RA1.out.drawn _, RB1.out.drawn _, RC1.out.drawn _, below_drawn BW1.out _⟩
      case measure => simp [intOf]; omega
end Go.Proofs.YtbkagnhficmdhaaDoor
