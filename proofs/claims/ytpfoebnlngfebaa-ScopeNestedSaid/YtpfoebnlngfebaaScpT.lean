/- Scopes: lists alike; an object as the answers'. -/
import Derived.Test.YtpfoebnlngfebaaScpK
import Derived.Deep.QuietTactic
namespace Go.Proofs.Ytpfoebnlngfebaa
open Go.ChangeShapes Go.WideShapes Go.ChangeAt Go.RowKit
set_option linter.unusedVariables false
set_option linter.unusedSimpArgs false

set_option maxHeartbeats 16000000 in
set_option maxRecDepth 100000 in
theorem params_any (A1 A2 : Option Addr) (c1 c2 B1 B2 : Nat) (ps : List (Int × Bool)) (w : World) (h1 : ParV B1 w (.slice A1 ps.length c1) ps) (h2 : ParV B2 w (.slice A2 ps.length c2) ps) (hn : ps.length * 16 ≤ 140737488355328) :
    Calls Try.prog 25 #[.slice A1 ps.length c1, .slice A2 ps.length c2] w fun e w' => e = .returned (.bool true) ∧ Below w.heap.size w w' := by
  have H1 := Lib.hid h1
  have H2 := Lib.hid h2
  clear h1 h2
  have hnn : ((ps.length : Int) != (ps.length : Int)) = false := by simp
  go_enter Try.func25, Try.ntmps25
  go_wp2_with fail
  go_loopw [5] (fun i wr => ∃ t : Nat, t ≤ ps.length ∧ i = .int .i64 t ∧ Below w.heap.size w wr) (fun i _ => ps.length - (intOf i).toNat)
  case atStart => exact ⟨0, Nat.zero_le _, rfl, Below.refl _ _⟩
  case round =>
    obtain ⟨t, ht, rfl, hb⟩ := hrel
    have BW := Lib.hid hb
    by_cases hlt : t < ps.length
    · have hI : (t : Int) < ps.length := by omega
      obtain ⟨b1, o1, rfl, x0, x1⟩ := (H1.out.below hb).at hlt
      obtain ⟨b2, o2, rfl, y0, y1⟩ := (H2.out.below hb).at hlt
      generalize ps.getD t (0, false) = p at *
      obtain ⟨pt, pr⟩ := p
      have B0 := Lib.hid (fun nq => below_drawn BW.out nq)
      rw [← Nat.add_assoc] at x1 y1
      simp only at x0 x1 y0 y1
      clear hb
      go_wp2_with fail
      go_quiet (fail)
      rename_i nq
      go_wp2_with fail
      go_roundw
      case rel => exact ⟨t + 1, by omega, by go_num, B0.out nq⟩
      case measure => simp [intOf]; omega
    · have hI : ¬ (t : Int) < ps.length := by omega
      go_wp2_with fail
      go_ret
      exact ⟨rfl, BW.out⟩

set_option maxHeartbeats 16000000 in
set_option maxRecDepth 100000 in
theorem names_same (A1 A2 : Option Addr) (c1 c2 B1 B2 : Nat) (ns : List ByteArray) (w : World) (h1 : w.ownsRow B1 pStr 1 (.slice A1 ns.length c1) ns.length (ns.map Value.string)) (h2 : w.ownsRow B2 pStr 1 (.slice A2 ns.length c2) ns.length (ns.map Value.string)) (hn : ns.length ≤ 1000000) :
    Calls Try.prog 22 #[.slice A1 ns.length c1, .slice A2 ns.length c2] w fun e w' => e = .returned (.bool true) ∧ Below w.heap.size w w' := by
  have H1 := Lib.hid h1
  have H2 := Lib.hid h2
  clear h1 h2
  go_enter Try.func22, Try.ntmps22
  go_wp2_with fail
  go_loopw [5] (fun i wr => ∃ t : Nat, t ≤ ns.length ∧ i = .int .i64 t ∧ Below w.heap.size w wr) (fun i _ => ns.length - (intOf i).toNat)
  case atStart => exact ⟨0, Nat.zero_le _, rfl, Below.refl _ _⟩
  case round =>
    obtain ⟨t, ht, rfl, hb⟩ := hrel
    have BW := Lib.hid hb
    by_cases hlt : t < ns.length
    · have hI : (t : Int) < ns.length := by omega
      obtain ⟨g1, rfl⟩ : ∃ g, A1 = some ⟨g, 0, none⟩ := by
        rcases H1.out.2 with ⟨_, h2⟩ | ⟨g, cap, cur, h1, _⟩
        · omega
        · injection h1 with h1 _ _
          exact ⟨g, h1⟩
      obtain ⟨g2, rfl⟩ : ∃ g, A2 = some ⟨g, 0, none⟩ := by
        rcases H2.out.2 with ⟨_, h2⟩ | ⟨g, cap, cur, h1, _⟩
        · omega
        · injection h1 with h1 _ _
          exact ⟨g, h1⟩
      have hv : (ns.map Value.string)[t]? = some (.string ns[t]) := by rw [List.getElem?_map, List.getElem?_eq_getElem hlt]; rfl
      have x0 := World.ownsRow.cells (row_below H1.out hb) (g := g1) rfl t _ hv
      have y0 := World.ownsRow.cells (row_below H2.out hb) (g := g2) rfl t _ hv
      rw [Go.WideShapes.add_plain, Nat.zero_add] at x0 y0
      generalize ns[t] = nm at *
      have hq1 : (nm.toList == nm.toList) = true := by simp
      have hq2 : (nm.toList != nm.toList) = false := by simp
      have B0 := Lib.hid (fun nq => below_drawn BW.out nq)
      clear hb hv
      go_wp2_with fail
      go_quiet (fail)
      rename_i nq
      go_wp2_with fail
      go_roundw
      case rel => exact ⟨t + 1, by omega, by go_num, B0.out nq⟩
      case measure => simp [intOf]; omega
    · have hI : ¬ (t : Int) < ns.length := by omega
      go_wp2_with fail
      go_ret
      exact ⟨rfl, BW.out⟩

set_option maxHeartbeats 16000000 in
set_option maxRecDepth 100000 in
theorem is_any (nm : ByteArray) (kd ty lv nn md : Int) (ou : Bool) (ps : List (Int × Bool)) (A1 A2 : Option Addr) (c1 c2 B1 B2 : Nat) (w : World) (h1 : ParV B1 w (.slice A1 ps.length c1) ps) (h2 : ParV B2 w (.slice A2 ps.length c2) ps) (hn : ps.length * 16 ≤ 140737488355328) :
    Calls Try.prog 15 #[.agg #[.string nm, .int .i64 kd, .int .i64 ty, .int .i64 lv, .int .i32 nn, .int .i64 md, .bool ou, .slice A1 ps.length c1], .agg #[.string nm, .int .i64 kd, .int .i64 ty, .int .i64 lv, .int .i32 nn, .int .i64 md, .bool ou, .slice A2 ps.length c2]] w fun e w' => e = .returned (.bool true) ∧ Below w.heap.size w w' := by
  have b1 := (Below.refl w.heap.size w).alloc (Nat.le_refl _) (.cells #[.string nm, .int .i64 kd, .int .i64 ty, .int .i64 lv, .int .i32 nn, .int .i64 md, .bool ou, .slice A1 ps.length c1] pO)
  have b2 := b1.alloc b1.size (.cells #[.string nm, .int .i64 kd, .int .i64 ty, .int .i64 lv, .int .i32 nn, .int .i64 md, .bool ou, .slice A2 ps.length c2] rO)
  have BV := Lib.hid b2
  have XA := Lib.hid ((Whole.made w pO #[.string nm, .int .i64 kd, .int .i64 ty, .int .i64 lv, .int .i32 nn, .int .i64 md, .bool ou, .slice A1 ps.length c1] _ rfl).alloc (.cells #[.string nm, .int .i64 kd, .int .i64 ty, .int .i64 lv, .int .i32 nn, .int .i64 md, .bool ou, .slice A2 ps.length c2] rO))
  have XB := Lib.hid (Whole.made (w.alloc (.cells #[.string nm, .int .i64 kd, .int .i64 ty, .int .i64 lv, .int .i32 nn, .int .i64 md, .bool ou, .slice A1 ps.length c1] pO)) rO #[.string nm, .int .i64 kd, .int .i64 ty, .int .i64 lv, .int .i32 nn, .int .i64 md, .bool ou, .slice A2 ps.length c2] (w.heap.size + 1) (by simp))
  have PP := Lib.hid (params_any A1 A2 c1 c2 B1 B2 ps ((w.alloc (.cells #[.string nm, .int .i64 kd, .int .i64 ty, .int .i64 lv, .int .i32 nn, .int .i64 md, .bool ou, .slice A1 ps.length c1] pO)).alloc (.cells #[.string nm, .int .i64 kd, .int .i64 ty, .int .i64 lv, .int .i32 nn, .int .i64 md, .bool ou, .slice A2 ps.length c2] rO)) (h1.below b2) (h2.below b2) hn)
  clear h1 h2 b1 b2
  have x0 : ((w.alloc (.cells #[.string nm, .int .i64 kd, .int .i64 ty, .int .i64 lv, .int .i32 nn, .int .i64 md, .bool ou, .slice A1 ps.length c1] pO)).alloc (.cells #[.string nm, .int .i64 kd, .int .i64 ty, .int .i64 lv, .int .i32 nn, .int .i64 md, .bool ou, .slice A2 ps.length c2] rO)).cell? ⟨w.heap.size, 0, none⟩ = some (.string nm) := XA.out.cell 0
  have x1 : ((w.alloc (.cells #[.string nm, .int .i64 kd, .int .i64 ty, .int .i64 lv, .int .i32 nn, .int .i64 md, .bool ou, .slice A1 ps.length c1] pO)).alloc (.cells #[.string nm, .int .i64 kd, .int .i64 ty, .int .i64 lv, .int .i32 nn, .int .i64 md, .bool ou, .slice A2 ps.length c2] rO)).cell? ⟨w.heap.size, 1, none⟩ = some (.int .i64 kd) := XA.out.cell 1
  have x2 : ((w.alloc (.cells #[.string nm, .int .i64 kd, .int .i64 ty, .int .i64 lv, .int .i32 nn, .int .i64 md, .bool ou, .slice A1 ps.length c1] pO)).alloc (.cells #[.string nm, .int .i64 kd, .int .i64 ty, .int .i64 lv, .int .i32 nn, .int .i64 md, .bool ou, .slice A2 ps.length c2] rO)).cell? ⟨w.heap.size, 2, none⟩ = some (.int .i64 ty) := XA.out.cell 2
  have x3 : ((w.alloc (.cells #[.string nm, .int .i64 kd, .int .i64 ty, .int .i64 lv, .int .i32 nn, .int .i64 md, .bool ou, .slice A1 ps.length c1] pO)).alloc (.cells #[.string nm, .int .i64 kd, .int .i64 ty, .int .i64 lv, .int .i32 nn, .int .i64 md, .bool ou, .slice A2 ps.length c2] rO)).cell? ⟨w.heap.size, 3, none⟩ = some (.int .i64 lv) := XA.out.cell 3
  have x4 : ((w.alloc (.cells #[.string nm, .int .i64 kd, .int .i64 ty, .int .i64 lv, .int .i32 nn, .int .i64 md, .bool ou, .slice A1 ps.length c1] pO)).alloc (.cells #[.string nm, .int .i64 kd, .int .i64 ty, .int .i64 lv, .int .i32 nn, .int .i64 md, .bool ou, .slice A2 ps.length c2] rO)).cell? ⟨w.heap.size, 4, none⟩ = some (.int .i32 nn) := XA.out.cell 4
  have x5 : ((w.alloc (.cells #[.string nm, .int .i64 kd, .int .i64 ty, .int .i64 lv, .int .i32 nn, .int .i64 md, .bool ou, .slice A1 ps.length c1] pO)).alloc (.cells #[.string nm, .int .i64 kd, .int .i64 ty, .int .i64 lv, .int .i32 nn, .int .i64 md, .bool ou, .slice A2 ps.length c2] rO)).cell? ⟨w.heap.size, 5, none⟩ = some (.int .i64 md) := XA.out.cell 5
  have x6 : ((w.alloc (.cells #[.string nm, .int .i64 kd, .int .i64 ty, .int .i64 lv, .int .i32 nn, .int .i64 md, .bool ou, .slice A1 ps.length c1] pO)).alloc (.cells #[.string nm, .int .i64 kd, .int .i64 ty, .int .i64 lv, .int .i32 nn, .int .i64 md, .bool ou, .slice A2 ps.length c2] rO)).cell? ⟨w.heap.size, 6, none⟩ = some (.bool ou) := XA.out.cell 6
  have x7 : ((w.alloc (.cells #[.string nm, .int .i64 kd, .int .i64 ty, .int .i64 lv, .int .i32 nn, .int .i64 md, .bool ou, .slice A1 ps.length c1] pO)).alloc (.cells #[.string nm, .int .i64 kd, .int .i64 ty, .int .i64 lv, .int .i32 nn, .int .i64 md, .bool ou, .slice A2 ps.length c2] rO)).cell? ⟨w.heap.size, 7, none⟩ = some (.slice A1 ps.length c1) := XA.out.cell 7
  have y0 : ((w.alloc (.cells #[.string nm, .int .i64 kd, .int .i64 ty, .int .i64 lv, .int .i32 nn, .int .i64 md, .bool ou, .slice A1 ps.length c1] pO)).alloc (.cells #[.string nm, .int .i64 kd, .int .i64 ty, .int .i64 lv, .int .i32 nn, .int .i64 md, .bool ou, .slice A2 ps.length c2] rO)).cell? ⟨w.heap.size + 1, 0, none⟩ = some (.string nm) := XB.out.cell 0
  have y1 : ((w.alloc (.cells #[.string nm, .int .i64 kd, .int .i64 ty, .int .i64 lv, .int .i32 nn, .int .i64 md, .bool ou, .slice A1 ps.length c1] pO)).alloc (.cells #[.string nm, .int .i64 kd, .int .i64 ty, .int .i64 lv, .int .i32 nn, .int .i64 md, .bool ou, .slice A2 ps.length c2] rO)).cell? ⟨w.heap.size + 1, 1, none⟩ = some (.int .i64 kd) := XB.out.cell 1
  have y2 : ((w.alloc (.cells #[.string nm, .int .i64 kd, .int .i64 ty, .int .i64 lv, .int .i32 nn, .int .i64 md, .bool ou, .slice A1 ps.length c1] pO)).alloc (.cells #[.string nm, .int .i64 kd, .int .i64 ty, .int .i64 lv, .int .i32 nn, .int .i64 md, .bool ou, .slice A2 ps.length c2] rO)).cell? ⟨w.heap.size + 1, 2, none⟩ = some (.int .i64 ty) := XB.out.cell 2
  have y3 : ((w.alloc (.cells #[.string nm, .int .i64 kd, .int .i64 ty, .int .i64 lv, .int .i32 nn, .int .i64 md, .bool ou, .slice A1 ps.length c1] pO)).alloc (.cells #[.string nm, .int .i64 kd, .int .i64 ty, .int .i64 lv, .int .i32 nn, .int .i64 md, .bool ou, .slice A2 ps.length c2] rO)).cell? ⟨w.heap.size + 1, 3, none⟩ = some (.int .i64 lv) := XB.out.cell 3
  have y4 : ((w.alloc (.cells #[.string nm, .int .i64 kd, .int .i64 ty, .int .i64 lv, .int .i32 nn, .int .i64 md, .bool ou, .slice A1 ps.length c1] pO)).alloc (.cells #[.string nm, .int .i64 kd, .int .i64 ty, .int .i64 lv, .int .i32 nn, .int .i64 md, .bool ou, .slice A2 ps.length c2] rO)).cell? ⟨w.heap.size + 1, 4, none⟩ = some (.int .i32 nn) := XB.out.cell 4
  have y5 : ((w.alloc (.cells #[.string nm, .int .i64 kd, .int .i64 ty, .int .i64 lv, .int .i32 nn, .int .i64 md, .bool ou, .slice A1 ps.length c1] pO)).alloc (.cells #[.string nm, .int .i64 kd, .int .i64 ty, .int .i64 lv, .int .i32 nn, .int .i64 md, .bool ou, .slice A2 ps.length c2] rO)).cell? ⟨w.heap.size + 1, 5, none⟩ = some (.int .i64 md) := XB.out.cell 5
  have y6 : ((w.alloc (.cells #[.string nm, .int .i64 kd, .int .i64 ty, .int .i64 lv, .int .i32 nn, .int .i64 md, .bool ou, .slice A1 ps.length c1] pO)).alloc (.cells #[.string nm, .int .i64 kd, .int .i64 ty, .int .i64 lv, .int .i32 nn, .int .i64 md, .bool ou, .slice A2 ps.length c2] rO)).cell? ⟨w.heap.size + 1, 6, none⟩ = some (.bool ou) := XB.out.cell 6
  have y7 : ((w.alloc (.cells #[.string nm, .int .i64 kd, .int .i64 ty, .int .i64 lv, .int .i32 nn, .int .i64 md, .bool ou, .slice A1 ps.length c1] pO)).alloc (.cells #[.string nm, .int .i64 kd, .int .i64 ty, .int .i64 lv, .int .i32 nn, .int .i64 md, .bool ou, .slice A2 ps.length c2] rO)).cell? ⟨w.heap.size + 1, 7, none⟩ = some (.slice A2 ps.length c2) := XB.out.cell 7
  go_enter Try.func15, Try.ntmps15
  go_wp2_with fail
  refine PP.out.mono ?_
  rintro e w3 ⟨rfl, hb3⟩
  have B3 := Lib.hid (BV.out.trans (hb3.mono BV.out.size))
  clear hb3 PP x0 x1 x2 x3 x4 x5 x6 x7 y0 y1 y2 y3 y4 y5 y6 y7
  go_wp2_with fail
  go_ret
  exact ⟨rfl, B3.out⟩

set_option maxHeartbeats 16000000 in
set_option maxRecDepth 100000 in
theorem ref_any (nm : ByteArray) (kd ty lv nn md : Int) (ou : Bool) (ps : List (Int × Bool)) (Ap : Option Addr) (cp : Nat) (w : World) :
    Calls Try.prog 32 #[.agg #[.string nm, .int .i64 kd, .int .i64 ty, .int .i64 lv, .int .i32 nn, .int .i64 md, .bool ou, .slice Ap ps.length cp]] w fun e w' => e = .returned (.agg #[.string nm, .int .i64 kd, .int .i64 ty, .int .i64 lv, .int .i32 nn, .int .i64 md, .bool ou, .slice Ap ps.length cp]) ∧ Below w.heap.size w w' := by
  have b1 := (Below.refl w.heap.size w).alloc (Nat.le_refl _) (.cells #[.string nm, .int .i64 kd, .int .i64 ty, .int .i64 lv, .int .i32 nn, .int .i64 md, .bool ou, .slice Ap ps.length cp] pO)
  have b2 := b1.alloc b1.size (.cells #[.string nm, .int .i64 kd, .int .i64 ty, .int .i64 lv, .int .i32 nn, .int .i64 md, .bool ou, .slice Ap ps.length cp] rO)
  have BV := Lib.hid b2
  have XB := Lib.hid (Whole.made (w.alloc (.cells #[.string nm, .int .i64 kd, .int .i64 ty, .int .i64 lv, .int .i32 nn, .int .i64 md, .bool ou, .slice Ap ps.length cp] pO)) rO #[.string nm, .int .i64 kd, .int .i64 ty, .int .i64 lv, .int .i32 nn, .int .i64 md, .bool ou, .slice Ap ps.length cp] (w.heap.size + 1) (by simp))
  clear b1 b2
  go_enter Try.func32, Try.ntmps32
  repeat (first | go_values | go_skip | go_guarded | go_step | go_upon)
  have x0 : ((w.alloc (.cells #[.string nm, .int .i64 kd, .int .i64 ty, .int .i64 lv, .int .i32 nn, .int .i64 md, .bool ou, .slice Ap ps.length cp] pO)).alloc (.cells #[.string nm, .int .i64 kd, .int .i64 ty, .int .i64 lv, .int .i32 nn, .int .i64 md, .bool ou, .slice Ap ps.length cp] rO)).cell? ⟨w.heap.size + 1, 0, none⟩ = some (.string nm) := XB.out.cell 0
  have x1 : ((w.alloc (.cells #[.string nm, .int .i64 kd, .int .i64 ty, .int .i64 lv, .int .i32 nn, .int .i64 md, .bool ou, .slice Ap ps.length cp] pO)).alloc (.cells #[.string nm, .int .i64 kd, .int .i64 ty, .int .i64 lv, .int .i32 nn, .int .i64 md, .bool ou, .slice Ap ps.length cp] rO)).cell? ⟨w.heap.size + 1, 1, none⟩ = some (.int .i64 kd) := XB.out.cell 1
  have x2 : ((w.alloc (.cells #[.string nm, .int .i64 kd, .int .i64 ty, .int .i64 lv, .int .i32 nn, .int .i64 md, .bool ou, .slice Ap ps.length cp] pO)).alloc (.cells #[.string nm, .int .i64 kd, .int .i64 ty, .int .i64 lv, .int .i32 nn, .int .i64 md, .bool ou, .slice Ap ps.length cp] rO)).cell? ⟨w.heap.size + 1, 2, none⟩ = some (.int .i64 ty) := XB.out.cell 2
  have x3 : ((w.alloc (.cells #[.string nm, .int .i64 kd, .int .i64 ty, .int .i64 lv, .int .i32 nn, .int .i64 md, .bool ou, .slice Ap ps.length cp] pO)).alloc (.cells #[.string nm, .int .i64 kd, .int .i64 ty, .int .i64 lv, .int .i32 nn, .int .i64 md, .bool ou, .slice Ap ps.length cp] rO)).cell? ⟨w.heap.size + 1, 3, none⟩ = some (.int .i64 lv) := XB.out.cell 3
  have x4 : ((w.alloc (.cells #[.string nm, .int .i64 kd, .int .i64 ty, .int .i64 lv, .int .i32 nn, .int .i64 md, .bool ou, .slice Ap ps.length cp] pO)).alloc (.cells #[.string nm, .int .i64 kd, .int .i64 ty, .int .i64 lv, .int .i32 nn, .int .i64 md, .bool ou, .slice Ap ps.length cp] rO)).cell? ⟨w.heap.size + 1, 4, none⟩ = some (.int .i32 nn) := XB.out.cell 4
  have x5 : ((w.alloc (.cells #[.string nm, .int .i64 kd, .int .i64 ty, .int .i64 lv, .int .i32 nn, .int .i64 md, .bool ou, .slice Ap ps.length cp] pO)).alloc (.cells #[.string nm, .int .i64 kd, .int .i64 ty, .int .i64 lv, .int .i32 nn, .int .i64 md, .bool ou, .slice Ap ps.length cp] rO)).cell? ⟨w.heap.size + 1, 5, none⟩ = some (.int .i64 md) := XB.out.cell 5
  have x6 : ((w.alloc (.cells #[.string nm, .int .i64 kd, .int .i64 ty, .int .i64 lv, .int .i32 nn, .int .i64 md, .bool ou, .slice Ap ps.length cp] pO)).alloc (.cells #[.string nm, .int .i64 kd, .int .i64 ty, .int .i64 lv, .int .i32 nn, .int .i64 md, .bool ou, .slice Ap ps.length cp] rO)).cell? ⟨w.heap.size + 1, 6, none⟩ = some (.bool ou) := XB.out.cell 6
  have x7 : ((w.alloc (.cells #[.string nm, .int .i64 kd, .int .i64 ty, .int .i64 lv, .int .i32 nn, .int .i64 md, .bool ou, .slice Ap ps.length cp] pO)).alloc (.cells #[.string nm, .int .i64 kd, .int .i64 ty, .int .i64 lv, .int .i32 nn, .int .i64 md, .bool ou, .slice Ap ps.length cp] rO)).cell? ⟨w.heap.size + 1, 7, none⟩ = some (.slice Ap ps.length cp) := XB.out.cell 7
  refine bodyPost_ret (v := .agg #[.string nm, .int .i64 kd, .int .i64 ty, .int .i64 lv, .int .i32 nn, .int .i64 md, .bool ou, .slice Ap ps.length cp]) ?_ rfl ⟨rfl, BV.out⟩
  clear XB BV
  generalize ((w.alloc (.cells #[.string nm, .int .i64 kd, .int .i64 ty, .int .i64 lv, .int .i32 nn, .int .i64 md, .bool ou, .slice Ap ps.length cp] pO)).alloc (.cells #[.string nm, .int .i64 kd, .int .i64 ty, .int .i64 lv, .int .i32 nn, .int .i64 md, .bool ou, .slice Ap ps.length cp] rO)) = Z at *
  simp [results, Try.results32, go_sem, x0, x1, x2, x3, x4, x5, x6, x7]
end Go.Proofs.Ytpfoebnlngfebaa
