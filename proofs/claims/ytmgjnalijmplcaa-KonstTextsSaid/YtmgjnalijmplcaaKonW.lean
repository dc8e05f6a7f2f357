/- Konst: the law KonstTexts walked. -/
import Derived.Test.YtmgjnalijmplcaaKonU
import Derived.Deep.RegionHeld3
namespace Go.Proofs.Ytmgjnalijmplcaa
open Go.ChangeShapes Go.WideShapes Go.ChangeAt Go.RowKit
set_option linter.unusedVariables false
set_option linter.unusedSimpArgs false

set_option maxHeartbeats 16000000 in
set_option maxRecDepth 100000 in
theorem texts_walk (w : World) (t n : Int) (b0 : -2147483648 ≤ n) (b1 : n ≤ 2147483647) : Calls Try.prog 5 #[.agg #[.int .i64 t, .int .i32 n]] w fun e w' => e = .returned (.bool true) ∧ Below w.heap.size w w' := by
  have BA := Lib.hid ((Below.refl w.heap.size w).alloc (Nat.le_refl _) (.cells #[.int .i64 t, .int .i32 n] kT))
  have P := Lib.hid (Whole.made w kT #[.int .i64 t, .int .i32 n] _ rfl)
  have AW := Lib.hid (fun y => awake10_any y)
  have RI := Lib.hid (fun y => right_any t n y b0 b1)
  have RR := Lib.hid (fun y => refright_any t n y b0 b1)
  have TX := Lib.hid (fun y => kontext_any t n y b0 b1)
  have RX := Lib.hid (fun y => refkontext_any t n y b0 b1)
  have RF := Lib.hid (fun y => ref_any t n y)
  clear b0 b1
  generalize rightB t n = rb at *
  generalize konT t n = s at *
  go_enter Try.func5, Try.ntmps5
  go_wp2_with fail
  generalize w.alloc (.cells #[.int .i64 t, .int .i32 n] kT) = V at *
  have CS := Lib.hid (fun y (hy : Below V.heap.size V y) => show Below V.heap.size V y ∧ y.cell? ⟨w.heap.size, 0, none⟩ = some (.int .i64 t) ∧ y.cell? ⟨w.heap.size, 1, none⟩ = some (.int .i32 n) from ⟨hy, (P.out.below hy P.out.lt).cell 0, (P.out.below hy P.out.lt).cell 1⟩)
  have L1 := CS.out V.drew (Below.refl _ _).drew
  have lift : ∀ {f : Nat} {a : Array Value} {v : Value}, (∀ y, Calls Try.prog f a y fun e w' => e = .returned v ∧ Below y.heap.size y w') → ∀ y, (Below V.heap.size V y ∧ y.cell? ⟨w.heap.size, 0, none⟩ = some (.int .i64 t) ∧ y.cell? ⟨w.heap.size, 1, none⟩ = some (.int .i32 n)) → Calls Try.prog f a y fun e w' => e = .returned v ∧ (Below V.heap.size V w' ∧ w'.cell? ⟨w.heap.size, 0, none⟩ = some (.int .i64 t) ∧ w'.cell? ⟨w.heap.size, 1, none⟩ = some (.int .i32 n)) := by
    intro f a v h y hy
    refine (h y).mono ?_
    rintro e w' ⟨he, hb⟩
    exact ⟨he, CS.out w' (hy.1.trans (hb.mono hy.1.size))⟩
  have AWs := Lib.hid (lift AW.out)
  have RIs := Lib.hid (lift RI.out)
  have RRs := Lib.hid (lift RR.out)
  have TXs := Lib.hid (lift TX.out)
  have RXs := Lib.hid (lift RX.out)
  have RFs := Lib.hid (lift RF.out)
  clear lift AW RI RR TX RX RF CS P
  go_region_held3 (fun y => Below V.heap.size V y ∧ y.cell? ⟨w.heap.size, 0, none⟩ = some (.int .i64 t) ∧ y.cell? ⟨w.heap.size, 1, none⟩ = some (.int .i32 n))
    (first
      | with_reducible assumption
      | with_reducible exact L1
      | fail)
    (first
      | (go_at_call 8; refine (AWs.out _ (by assumption)).mono ?_; rintro e y1 ⟨rfl, hy1⟩)
      | (go_at_call 14; refine (RIs.out _ (by assumption)).mono ?_; rintro e y2 ⟨rfl, hy2⟩)
      | (go_at_call 15; refine (RRs.out _ (by assumption)).mono ?_; rintro e y3 ⟨rfl, hy3⟩)
      | (go_at_call 16; refine (TXs.out _ (by assumption)).mono ?_; rintro e y4 ⟨rfl, hy4⟩)
      | (go_at_call 17; refine (RXs.out _ (by assumption)).mono ?_; rintro e y5 ⟨rfl, hy5⟩)
      | (go_at_call 11; refine (RFs.out _ (by assumption)).mono ?_; rintro e y6 ⟨rfl, hy6⟩))
  all_goals
    have E5 := Lib.hid (BA.out.trans (hy5.1.mono BA.out.size))
    clear L1
    go_wp2_with fail
    go_ret
    exact ⟨rfl, E5.out⟩
end Go.Proofs.Ytmgjnalijmplcaa
