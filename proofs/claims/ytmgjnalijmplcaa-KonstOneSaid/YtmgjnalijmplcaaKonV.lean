/- Konst: the laws KonstTwo and KonstOne walked. -/
import Derived.Test.YtmgjnalijmplcaaKonU
import Derived.Deep.RegionHeld3
namespace Go.Proofs.Ytmgjnalijmplcaa
open Go.ChangeShapes Go.WideShapes Go.ChangeAt Go.RowKit
set_option linter.unusedVariables false
set_option linter.unusedSimpArgs false

set_option maxHeartbeats 16000000 in
set_option maxRecDepth 100000 in
theorem two_walk (w : World) (s : ByteArray) (t1 n1 t2 n2 : Int) (b10 : -2147483648 ≤ n1) (b11 : n1 ≤ 2147483647) (b20 : -2147483648 ≤ n2) (b21 : n2 ≤ 2147483647) : Calls Try.prog 3 #[.string s, .agg #[.int .i64 t1, .int .i32 n1], .agg #[.int .i64 t2, .int .i32 n2]] w fun e w' => e = .returned (.bool true) ∧ Below w.heap.size w w' := by
  have c0 := (Below.refl w.heap.size w).alloc (Nat.le_refl _) (.cells #[.int .i64 t1, .int .i32 n1] kT)
  have c1 := c0.alloc c0.size (.cells #[.int .i64 t2, .int .i32 n2] kT)
  have BA := Lib.hid c1
  have P0 := Lib.hid ((Whole.made w kT #[.int .i64 t1, .int .i32 n1] (w.heap.size) (by simp)).alloc (.cells #[.int .i64 t2, .int .i32 n2] kT))
  have P1 := Lib.hid (Whole.made (w.alloc (.cells #[.int .i64 t1, .int .i32 n1] kT)) kT #[.int .i64 t2, .int .i32 n2] (w.heap.size + 1) (by simp))
  clear c0 c1
  have AW := Lib.hid (fun y => awake10_any y)
  have TW := Lib.hid (fun y => two_any s t1 n1 t2 n2 y b10 b11)
  have RW := Lib.hid (fun y => reftwo_any s t1 n1 t2 n2 y b10 b11 b20 b21)
  have F0 := Lib.hid (fun y => ref_any t1 n1 y)
  have F1 := Lib.hid (fun y => ref_any t2 n2 y)
  clear b10 b11 b20 b21
  generalize twoP (sig2 s) t1 n1 t2 n2 = r at *
  have FV := Lib.hid (fun y => ref_any r.t r.n y)
  unfold kR at *
  go_enter Try.func3, Try.ntmps3
  go_wp2_with fail
  generalize (w.alloc (.cells #[.int .i64 t1, .int .i32 n1] kT)).alloc (.cells #[.int .i64 t2, .int .i32 n2] kT) = V at *
  refine (AW.out _).mono ?_
  rintro e w1 ⟨rfl, hb⟩
  have B1 := Lib.hid (BA.out.trans (hb.mono BA.out.size))
  have P01 := Lib.hid (P0.out.below hb P0.out.lt)
  have P11 := Lib.hid (P1.out.below hb P1.out.lt)
  clear hb
  have p00 : w1.cell? ⟨w.heap.size, 0, none⟩ = some (.int .i64 t1) := P01.out.cell 0
  have p01 : w1.cell? ⟨w.heap.size, 1, none⟩ = some (.int .i32 n1) := P01.out.cell 1
  have p10 : w1.cell? ⟨w.heap.size + 1, 0, none⟩ = some (.int .i64 t2) := P11.out.cell 0
  have p11 : w1.cell? ⟨w.heap.size + 1, 1, none⟩ = some (.int .i32 n2) := P11.out.cell 1
  go_wp2_with fail
  clear p00 p01 p10 p11
  refine (TW.out _).mono ?_
  rintro e w2 ⟨rfl, hb⟩
  have B2 := Lib.hid (B1.out.trans (hb.mono B1.out.size))
  have P02 := Lib.hid (P01.out.below hb P01.out.lt)
  have P12 := Lib.hid (P11.out.below hb P11.out.lt)
  clear hb
  have P03 := Lib.hid (P02.out.alloc (.cells #[.int .i64 r.t, .int .i32 r.n] kT))
  have P13 := Lib.hid (P12.out.alloc (.cells #[.int .i64 r.t, .int .i32 r.n] kT))
  have B3 := Lib.hid (B2.out.alloc B2.out.size (.cells #[.int .i64 r.t, .int .i32 r.n] kT))
  have G3 := Lib.hid (Whole.made w2 kT #[.int .i64 r.t, .int .i32 r.n] _ rfl)
  clear P01 P02 P11 P12 B1 B2
  go_wp2_with fail
  generalize w2.alloc (.cells #[.int .i64 r.t, .int .i32 r.n] kT) = v3 at *
  generalize w2.heap.size = g at *
  have CS := Lib.hid (fun y (hy : Below v3.heap.size v3 y) => show Below v3.heap.size v3 y ∧ y.cell? ⟨w.heap.size, 0, none⟩ = some (.int .i64 t1) ∧ y.cell? ⟨w.heap.size, 1, none⟩ = some (.int .i32 n1) ∧ y.cell? ⟨w.heap.size + 1, 0, none⟩ = some (.int .i64 t2) ∧ y.cell? ⟨w.heap.size + 1, 1, none⟩ = some (.int .i32 n2) from ⟨hy, (P03.out.below hy P03.out.lt).cell 0, (P03.out.below hy P03.out.lt).cell 1, (P13.out.below hy P13.out.lt).cell 0, (P13.out.below hy P13.out.lt).cell 1⟩)
  have L1 := CS.out v3.drew (Below.refl _ _).drew
  have KA := Lib.hid (fun y o (hy : Below v3.heap.size v3 y ∧ y.cell? ⟨w.heap.size, 0, none⟩ = some (.int .i64 t1) ∧ y.cell? ⟨w.heap.size, 1, none⟩ = some (.int .i32 n1) ∧ y.cell? ⟨w.heap.size + 1, 0, none⟩ = some (.int .i64 t2) ∧ y.cell? ⟨w.heap.size + 1, 1, none⟩ = some (.int .i32 n2)) => CS.out (y.alloc o) (hy.1.alloc hy.1.size o))
  have KD := Lib.hid (fun o => CS.out (v3.alloc o).drew ((Below.refl _ v3).alloc (Nat.le_refl _) o).drew)
  have KS := Lib.hid (fun y b u u' (hb : v3.heap.size ≤ b) (hy : Below v3.heap.size v3 y ∧ y.cell? ⟨w.heap.size, 0, none⟩ = some (.int .i64 t1) ∧ y.cell? ⟨w.heap.size, 1, none⟩ = some (.int .i32 n1) ∧ y.cell? ⟨w.heap.size + 1, 0, none⟩ = some (.int .i64 t2) ∧ y.cell? ⟨w.heap.size + 1, 1, none⟩ = some (.int .i32 n2)) => CS.out ((y.setCell ⟨b, 0, none⟩ u).setCell ⟨b, 1, none⟩ u') ((hy.1.setCell (p := ⟨b, 0, none⟩) hb u).setCell (p := ⟨b, 1, none⟩) hb u'))
  have HD := Lib.hid (show Whole (v3.alloc (.cells #[.int .i64 0, .int .i32 0] rT)).drew v3.heap.size rT #[.int .i64 0, .int .i32 0] from Whole.made v3 rT #[.int .i64 0, .int .i32 0] _ rfl)
  have F0S := Lib.hid (fun y (hy : Below v3.heap.size v3 y ∧ y.cell? ⟨w.heap.size, 0, none⟩ = some (.int .i64 t1) ∧ y.cell? ⟨w.heap.size, 1, none⟩ = some (.int .i32 n1) ∧ y.cell? ⟨w.heap.size + 1, 0, none⟩ = some (.int .i64 t2) ∧ y.cell? ⟨w.heap.size + 1, 1, none⟩ = some (.int .i32 n2)) => (F0.out y).mono (R' := fun e w' => e = .returned (.agg #[.int .i64 t1, .int .i32 n1]) ∧ (Below v3.heap.size v3 w' ∧ w'.cell? ⟨w.heap.size, 0, none⟩ = some (.int .i64 t1) ∧ w'.cell? ⟨w.heap.size, 1, none⟩ = some (.int .i32 n1) ∧ w'.cell? ⟨w.heap.size + 1, 0, none⟩ = some (.int .i64 t2) ∧ w'.cell? ⟨w.heap.size + 1, 1, none⟩ = some (.int .i32 n2)) ∧ Below y.heap.size y w') (by
    rintro e w' ⟨he, hb⟩
    exact ⟨he, CS.out w' (hy.1.trans (hb.mono hy.1.size)), hb⟩))
  have F1S := Lib.hid (fun y (hy : Below v3.heap.size v3 y ∧ y.cell? ⟨w.heap.size, 0, none⟩ = some (.int .i64 t1) ∧ y.cell? ⟨w.heap.size, 1, none⟩ = some (.int .i32 n1) ∧ y.cell? ⟨w.heap.size + 1, 0, none⟩ = some (.int .i64 t2) ∧ y.cell? ⟨w.heap.size + 1, 1, none⟩ = some (.int .i32 n2)) => (F1.out y).mono (R' := fun e w' => e = .returned (.agg #[.int .i64 t2, .int .i32 n2]) ∧ (Below v3.heap.size v3 w' ∧ w'.cell? ⟨w.heap.size, 0, none⟩ = some (.int .i64 t1) ∧ w'.cell? ⟨w.heap.size, 1, none⟩ = some (.int .i32 n1) ∧ w'.cell? ⟨w.heap.size + 1, 0, none⟩ = some (.int .i64 t2) ∧ w'.cell? ⟨w.heap.size + 1, 1, none⟩ = some (.int .i32 n2)) ∧ Below y.heap.size y w') (by
    rintro e w' ⟨he, hb⟩
    exact ⟨he, CS.out w' (hy.1.trans (hb.mono hy.1.size)), hb⟩))
  have RS := Lib.hid (fun y (hy : Below v3.heap.size v3 y ∧ y.cell? ⟨w.heap.size, 0, none⟩ = some (.int .i64 t1) ∧ y.cell? ⟨w.heap.size, 1, none⟩ = some (.int .i32 n1) ∧ y.cell? ⟨w.heap.size + 1, 0, none⟩ = some (.int .i64 t2) ∧ y.cell? ⟨w.heap.size + 1, 1, none⟩ = some (.int .i32 n2)) => (RW.out y).mono (R' := fun e w' => e = .returned (.tuple #[.agg #[.int .i64 r.t, .int .i32 r.n], .int .i64 r.e]) ∧ (Below v3.heap.size v3 w' ∧ w'.cell? ⟨w.heap.size, 0, none⟩ = some (.int .i64 t1) ∧ w'.cell? ⟨w.heap.size, 1, none⟩ = some (.int .i32 n1) ∧ w'.cell? ⟨w.heap.size + 1, 0, none⟩ = some (.int .i64 t2) ∧ w'.cell? ⟨w.heap.size + 1, 1, none⟩ = some (.int .i32 n2)) ∧ Below y.heap.size y w') (by
    rintro e w' ⟨he, hb⟩
    exact ⟨he, CS.out w' (hy.1.trans (hb.mono hy.1.size)), hb⟩))
  clear AW TW RW CS F0 F1
  go_region_held3 (fun y => Below v3.heap.size v3 y ∧ y.cell? ⟨w.heap.size, 0, none⟩ = some (.int .i64 t1) ∧ y.cell? ⟨w.heap.size, 1, none⟩ = some (.int .i32 n1) ∧ y.cell? ⟨w.heap.size + 1, 0, none⟩ = some (.int .i64 t2) ∧ y.cell? ⟨w.heap.size + 1, 1, none⟩ = some (.int .i32 n2))
    (first
      | with_reducible assumption
      | with_reducible exact L1
      | with_reducible exact KD.out _
      | with_reducible exact KS.out _ _ _ _ (Nat.le_refl _) (by assumption)
      | with_reducible exact KS.out _ _ _ _ hz0.1.size (by assumption)
      | with_reducible exact KS.out _ _ _ _ hz1.1.size (by assumption)
      | with_reducible exact KA.out _ _ (by assumption)
      | fail)
    (first
      | (go_at_call 11; refine (F0S.out _ (by assumption)).mono ?_; rintro e z0 ⟨rfl, hz0, hb⟩; (first | have Az0 := Lib.hid (HD.out.below hb HD.out.lt) | skip); clear hb)
      | (go_at_call 11; refine (F1S.out _ (by assumption)).mono ?_; rintro e z1 ⟨rfl, hz1, hb⟩; (first | have Az1 := Lib.hid (Az0.out.below hb Az0.out.lt) | have Az1 := Lib.hid ((Whole.made z0 rT #[.int .i64 0, .int .i32 0] _ rfl).below hb (by simp)) | skip); clear hb)
      | (go_at_call 10; refine (RS.out _ (by assumption)).mono ?_; rintro e zr ⟨rfl, hzr, hb⟩; (first | have Azr := Lib.hid (Az1.out.below hb Az1.out.lt) | have Azr := Lib.hid ((Whole.made z1 rT #[.int .i64 0, .int .i32 0] _ rfl).below hb (by simp)) | skip); (first | (have g0 := (show _ = some (Value.int .i64 0) from Azr.out.cell 0); have g1 := (show _ = some (Value.int .i32 0) from Azr.out.cell 1); have f0 := Azr.out.free 0; have f1 := Azr.out.free 1) | skip); clear hb))
  · have R5 := Lib.hid (Whole.made zr rT #[.int .i64 r.t, .int .i32 r.n] _ rfl)
    have B5 := Lib.hid (hzr.1.alloc hzr.1.size (.cells #[.int .i64 r.t, .int .i32 r.n] rT))
    have G5 := Lib.hid (G3.out.below B5.out G3.out.lt)
    have E5 := Lib.hid (B3.out.trans (B5.out.mono B3.out.size))
    clear L1 hz0 hz1 hzr B5
    try rename_i hH
    try clear hH
    go_wp2_with fail
    generalize zr.alloc (.cells #[.int .i64 r.t, .int .i32 r.n] rT) = v5 at *
    have R6 := Lib.hid R5.out
    clear R5
    generalize zr.heap.size = h at *
    have CT := Lib.hid (fun y (hy : Below v5.heap.size v5 y) => show Below v5.heap.size v5 y ∧ y.cell? ⟨g, 0, none⟩ = some (.int .i64 r.t) ∧ y.cell? ⟨g, 1, none⟩ = some (.int .i32 r.n) ∧ y.cell? ⟨h, 0, none⟩ = some (.int .i64 r.t) ∧ y.cell? ⟨h, 1, none⟩ = some (.int .i32 r.n) from ⟨hy, (G5.out.below hy G5.out.lt).cell 0, (G5.out.below hy G5.out.lt).cell 1, (R6.out.below hy R6.out.lt).cell 0, (R6.out.below hy R6.out.lt).cell 1⟩)
    have L2 := CT.out v5.drew (Below.refl _ _).drew
    have FS := Lib.hid (fun y (hy : Below v5.heap.size v5 y ∧ y.cell? ⟨g, 0, none⟩ = some (.int .i64 r.t) ∧ y.cell? ⟨g, 1, none⟩ = some (.int .i32 r.n) ∧ y.cell? ⟨h, 0, none⟩ = some (.int .i64 r.t) ∧ y.cell? ⟨h, 1, none⟩ = some (.int .i32 r.n)) => (FV.out y).mono (R' := fun e w' => e = .returned (.agg #[.int .i64 r.t, .int .i32 r.n]) ∧ (Below v5.heap.size v5 w' ∧ w'.cell? ⟨g, 0, none⟩ = some (.int .i64 r.t) ∧ w'.cell? ⟨g, 1, none⟩ = some (.int .i32 r.n) ∧ w'.cell? ⟨h, 0, none⟩ = some (.int .i64 r.t) ∧ w'.cell? ⟨h, 1, none⟩ = some (.int .i32 r.n))) (by
      rintro e w' ⟨he, hb⟩
      exact ⟨he, CT.out w' (hy.1.trans (hb.mono hy.1.size))⟩))
    go_region_held3 (fun y => Below v5.heap.size v5 y ∧ y.cell? ⟨g, 0, none⟩ = some (.int .i64 r.t) ∧ y.cell? ⟨g, 1, none⟩ = some (.int .i32 r.n) ∧ y.cell? ⟨h, 0, none⟩ = some (.int .i64 r.t) ∧ y.cell? ⟨h, 1, none⟩ = some (.int .i32 r.n))
      (first | with_reducible assumption | with_reducible exact L2 | fail)
      (first
        | (go_at_call 11; refine (FS.out _ (by assumption)).mono ?_; rintro e y6 ⟨rfl, hy6⟩))
    have E6 := Lib.hid (E5.out.trans (hy6.1.mono E5.out.size))
    clear L2
    go_wp2_with fail
    go_ret
    exact ⟨rfl, E6.out⟩
  · have R5 := Lib.hid ((Azr.out.store 0 (.int .i64 r.t)).store 1 (.int .i32 r.n))
    have B5 := Lib.hid ((hzr.1.setCell (p := ⟨z1.heap.size, 0, none⟩) (hz1.1.size) (.int .i64 r.t)).setCell (p := ⟨z1.heap.size, 1, none⟩) (hz1.1.size) (.int .i32 r.n))
    clear g0 g1 f0 f1
    have G5 := Lib.hid (G3.out.below B5.out G3.out.lt)
    have E5 := Lib.hid (B3.out.trans (B5.out.mono B3.out.size))
    clear L1 hz0 hz1 hzr B5
    try rename_i hH
    try clear hH
    go_wp2_with fail
    generalize (zr.setCell ⟨z1.heap.size, 0, none⟩ (.int .i64 r.t)).setCell ⟨z1.heap.size, 1, none⟩ (.int .i32 r.n) = v5 at *
    have R6 := Lib.hid R5.out
    clear R5
    generalize z1.heap.size = h at *
    have CT := Lib.hid (fun y (hy : Below v5.heap.size v5 y) => show Below v5.heap.size v5 y ∧ y.cell? ⟨g, 0, none⟩ = some (.int .i64 r.t) ∧ y.cell? ⟨g, 1, none⟩ = some (.int .i32 r.n) ∧ y.cell? ⟨h, 0, none⟩ = some (.int .i64 r.t) ∧ y.cell? ⟨h, 1, none⟩ = some (.int .i32 r.n) from ⟨hy, (G5.out.below hy G5.out.lt).cell 0, (G5.out.below hy G5.out.lt).cell 1, (R6.out.below hy R6.out.lt).cell 0, (R6.out.below hy R6.out.lt).cell 1⟩)
    have L2 := CT.out v5.drew (Below.refl _ _).drew
    have FS := Lib.hid (fun y (hy : Below v5.heap.size v5 y ∧ y.cell? ⟨g, 0, none⟩ = some (.int .i64 r.t) ∧ y.cell? ⟨g, 1, none⟩ = some (.int .i32 r.n) ∧ y.cell? ⟨h, 0, none⟩ = some (.int .i64 r.t) ∧ y.cell? ⟨h, 1, none⟩ = some (.int .i32 r.n)) => (FV.out y).mono (R' := fun e w' => e = .returned (.agg #[.int .i64 r.t, .int .i32 r.n]) ∧ (Below v5.heap.size v5 w' ∧ w'.cell? ⟨g, 0, none⟩ = some (.int .i64 r.t) ∧ w'.cell? ⟨g, 1, none⟩ = some (.int .i32 r.n) ∧ w'.cell? ⟨h, 0, none⟩ = some (.int .i64 r.t) ∧ w'.cell? ⟨h, 1, none⟩ = some (.int .i32 r.n))) (by
      rintro e w' ⟨he, hb⟩
      exact ⟨he, CT.out w' (hy.1.trans (hb.mono hy.1.size))⟩))
    go_region_held3 (fun y => Below v5.heap.size v5 y ∧ y.cell? ⟨g, 0, none⟩ = some (.int .i64 r.t) ∧ y.cell? ⟨g, 1, none⟩ = some (.int .i32 r.n) ∧ y.cell? ⟨h, 0, none⟩ = some (.int .i64 r.t) ∧ y.cell? ⟨h, 1, none⟩ = some (.int .i32 r.n))
      (first | with_reducible assumption | with_reducible exact L2 | fail)
      (first
        | (go_at_call 11; refine (FS.out _ (by assumption)).mono ?_; rintro e y6 ⟨rfl, hy6⟩))
    have E6 := Lib.hid (E5.out.trans (hy6.1.mono E5.out.size))
    clear L2
    go_wp2_with fail
    go_ret
    exact ⟨rfl, E6.out⟩
  · have R5 := Lib.hid ((Azr.out.store 0 (.int .i64 r.t)).store 1 (.int .i32 r.n))
    have B5 := Lib.hid ((hzr.1.setCell (p := ⟨z0.heap.size, 0, none⟩) (hz0.1.size) (.int .i64 r.t)).setCell (p := ⟨z0.heap.size, 1, none⟩) (hz0.1.size) (.int .i32 r.n))
    clear g0 g1 f0 f1
    have G5 := Lib.hid (G3.out.below B5.out G3.out.lt)
    have E5 := Lib.hid (B3.out.trans (B5.out.mono B3.out.size))
    clear L1 hz0 hz1 hzr B5
    try rename_i hH
    try clear hH
    go_wp2_with fail
    generalize (zr.setCell ⟨z0.heap.size, 0, none⟩ (.int .i64 r.t)).setCell ⟨z0.heap.size, 1, none⟩ (.int .i32 r.n) = v5 at *
    have R6 := Lib.hid R5.out
    clear R5
    generalize z0.heap.size = h at *
    have CT := Lib.hid (fun y (hy : Below v5.heap.size v5 y) => show Below v5.heap.size v5 y ∧ y.cell? ⟨g, 0, none⟩ = some (.int .i64 r.t) ∧ y.cell? ⟨g, 1, none⟩ = some (.int .i32 r.n) ∧ y.cell? ⟨h, 0, none⟩ = some (.int .i64 r.t) ∧ y.cell? ⟨h, 1, none⟩ = some (.int .i32 r.n) from ⟨hy, (G5.out.below hy G5.out.lt).cell 0, (G5.out.below hy G5.out.lt).cell 1, (R6.out.below hy R6.out.lt).cell 0, (R6.out.below hy R6.out.lt).cell 1⟩)
    have L2 := CT.out v5.drew (Below.refl _ _).drew
    have FS := Lib.hid (fun y (hy : Below v5.heap.size v5 y ∧ y.cell? ⟨g, 0, none⟩ = some (.int .i64 r.t) ∧ y.cell? ⟨g, 1, none⟩ = some (.int .i32 r.n) ∧ y.cell? ⟨h, 0, none⟩ = some (.int .i64 r.t) ∧ y.cell? ⟨h, 1, none⟩ = some (.int .i32 r.n)) => (FV.out y).mono (R' := fun e w' => e = .returned (.agg #[.int .i64 r.t, .int .i32 r.n]) ∧ (Below v5.heap.size v5 w' ∧ w'.cell? ⟨g, 0, none⟩ = some (.int .i64 r.t) ∧ w'.cell? ⟨g, 1, none⟩ = some (.int .i32 r.n) ∧ w'.cell? ⟨h, 0, none⟩ = some (.int .i64 r.t) ∧ w'.cell? ⟨h, 1, none⟩ = some (.int .i32 r.n))) (by
      rintro e w' ⟨he, hb⟩
      exact ⟨he, CT.out w' (hy.1.trans (hb.mono hy.1.size))⟩))
    go_region_held3 (fun y => Below v5.heap.size v5 y ∧ y.cell? ⟨g, 0, none⟩ = some (.int .i64 r.t) ∧ y.cell? ⟨g, 1, none⟩ = some (.int .i32 r.n) ∧ y.cell? ⟨h, 0, none⟩ = some (.int .i64 r.t) ∧ y.cell? ⟨h, 1, none⟩ = some (.int .i32 r.n))
      (first | with_reducible assumption | with_reducible exact L2 | fail)
      (first
        | (go_at_call 11; refine (FS.out _ (by assumption)).mono ?_; rintro e y6 ⟨rfl, hy6⟩))
    have E6 := Lib.hid (E5.out.trans (hy6.1.mono E5.out.size))
    clear L2
    go_wp2_with fail
    go_ret
    exact ⟨rfl, E6.out⟩
  · have R5 := Lib.hid ((Azr.out.store 0 (.int .i64 r.t)).store 1 (.int .i32 r.n))
    have B5 := Lib.hid ((hzr.1.setCell (p := ⟨v3.heap.size, 0, none⟩) (Nat.le_refl _) (.int .i64 r.t)).setCell (p := ⟨v3.heap.size, 1, none⟩) (Nat.le_refl _) (.int .i32 r.n))
    clear g0 g1 f0 f1
    have G5 := Lib.hid (G3.out.below B5.out G3.out.lt)
    have E5 := Lib.hid (B3.out.trans (B5.out.mono B3.out.size))
    clear L1 hz0 hz1 hzr B5
    try rename_i hH
    try clear hH
    go_wp2_with fail
    generalize (zr.setCell ⟨v3.heap.size, 0, none⟩ (.int .i64 r.t)).setCell ⟨v3.heap.size, 1, none⟩ (.int .i32 r.n) = v5 at *
    have R6 := Lib.hid R5.out
    clear R5
    generalize v3.heap.size = h at *
    have CT := Lib.hid (fun y (hy : Below v5.heap.size v5 y) => show Below v5.heap.size v5 y ∧ y.cell? ⟨g, 0, none⟩ = some (.int .i64 r.t) ∧ y.cell? ⟨g, 1, none⟩ = some (.int .i32 r.n) ∧ y.cell? ⟨h, 0, none⟩ = some (.int .i64 r.t) ∧ y.cell? ⟨h, 1, none⟩ = some (.int .i32 r.n) from ⟨hy, (G5.out.below hy G5.out.lt).cell 0, (G5.out.below hy G5.out.lt).cell 1, (R6.out.below hy R6.out.lt).cell 0, (R6.out.below hy R6.out.lt).cell 1⟩)
    have L2 := CT.out v5.drew (Below.refl _ _).drew
    have FS := Lib.hid (fun y (hy : Below v5.heap.size v5 y ∧ y.cell? ⟨g, 0, none⟩ = some (.int .i64 r.t) ∧ y.cell? ⟨g, 1, none⟩ = some (.int .i32 r.n) ∧ y.cell? ⟨h, 0, none⟩ = some (.int .i64 r.t) ∧ y.cell? ⟨h, 1, none⟩ = some (.int .i32 r.n)) => (FV.out y).mono (R' := fun e w' => e = .returned (.agg #[.int .i64 r.t, .int .i32 r.n]) ∧ (Below v5.heap.size v5 w' ∧ w'.cell? ⟨g, 0, none⟩ = some (.int .i64 r.t) ∧ w'.cell? ⟨g, 1, none⟩ = some (.int .i32 r.n) ∧ w'.cell? ⟨h, 0, none⟩ = some (.int .i64 r.t) ∧ w'.cell? ⟨h, 1, none⟩ = some (.int .i32 r.n))) (by
      rintro e w' ⟨he, hb⟩
      exact ⟨he, CT.out w' (hy.1.trans (hb.mono hy.1.size))⟩))
    go_region_held3 (fun y => Below v5.heap.size v5 y ∧ y.cell? ⟨g, 0, none⟩ = some (.int .i64 r.t) ∧ y.cell? ⟨g, 1, none⟩ = some (.int .i32 r.n) ∧ y.cell? ⟨h, 0, none⟩ = some (.int .i64 r.t) ∧ y.cell? ⟨h, 1, none⟩ = some (.int .i32 r.n))
      (first | with_reducible assumption | with_reducible exact L2 | fail)
      (first
        | (go_at_call 11; refine (FS.out _ (by assumption)).mono ?_; rintro e y6 ⟨rfl, hy6⟩))
    have E6 := Lib.hid (E5.out.trans (hy6.1.mono E5.out.size))
    clear L2
    go_wp2_with fail
    go_ret
    exact ⟨rfl, E6.out⟩

set_option maxHeartbeats 16000000 in
set_option maxRecDepth 100000 in
theorem one_walk (w : World) (s : ByteArray) (t n : Int) (b0 : -2147483648 ≤ n) (b1 : n ≤ 2147483647) : Calls Try.prog 4 #[.string s, .agg #[.int .i64 t, .int .i32 n]] w fun e w' => e = .returned (.bool true) ∧ Below w.heap.size w w' := by
  have c0 := (Below.refl w.heap.size w).alloc (Nat.le_refl _) (.cells #[.int .i64 t, .int .i32 n] kT)
  have BA := Lib.hid c0
  have P0 := Lib.hid (Whole.made w kT #[.int .i64 t, .int .i32 n] (w.heap.size) (by simp))
  clear c0
  have AW := Lib.hid (fun y => awake10_any y)
  have TW := Lib.hid (fun y => one_any s t n y b0 b1)
  have RW := Lib.hid (fun y => refone_any s t n y b0 b1)
  have F0 := Lib.hid (fun y => ref_any t n y)
  clear b0 b1
  generalize oneP (sig1 s) t n = r at *
  have FV := Lib.hid (fun y => ref_any r.t r.n y)
  unfold kR at *
  go_enter Try.func4, Try.ntmps4
  go_wp2_with fail
  generalize w.alloc (.cells #[.int .i64 t, .int .i32 n] kT) = V at *
  refine (AW.out _).mono ?_
  rintro e w1 ⟨rfl, hb⟩
  have B1 := Lib.hid (BA.out.trans (hb.mono BA.out.size))
  have P01 := Lib.hid (P0.out.below hb P0.out.lt)
  clear hb
  have p00 : w1.cell? ⟨w.heap.size, 0, none⟩ = some (.int .i64 t) := P01.out.cell 0
  have p01 : w1.cell? ⟨w.heap.size, 1, none⟩ = some (.int .i32 n) := P01.out.cell 1
  go_wp2_with fail
  clear p00 p01
  refine (TW.out _).mono ?_
  rintro e w2 ⟨rfl, hb⟩
  have B2 := Lib.hid (B1.out.trans (hb.mono B1.out.size))
  have P02 := Lib.hid (P01.out.below hb P01.out.lt)
  clear hb
  have P03 := Lib.hid (P02.out.alloc (.cells #[.int .i64 r.t, .int .i32 r.n] kT))
  have B3 := Lib.hid (B2.out.alloc B2.out.size (.cells #[.int .i64 r.t, .int .i32 r.n] kT))
  have G3 := Lib.hid (Whole.made w2 kT #[.int .i64 r.t, .int .i32 r.n] _ rfl)
  clear P01 P02 B1 B2
  have p00 : (w2.alloc (.cells #[.int .i64 r.t, .int .i32 r.n] kT)).cell? ⟨w.heap.size, 0, none⟩ = some (.int .i64 t) := P03.out.cell 0
  have p01 : (w2.alloc (.cells #[.int .i64 r.t, .int .i32 r.n] kT)).cell? ⟨w.heap.size, 1, none⟩ = some (.int .i32 n) := P03.out.cell 1
  go_wp2_with fail
  generalize w2.alloc (.cells #[.int .i64 r.t, .int .i32 r.n] kT) = v3 at *
  generalize w2.heap.size = g at *
  refine (F0.out _).mono ?_
  rintro e z0 ⟨rfl, hb0⟩
  go_wp2_with fail
  refine (RW.out _).mono ?_
  rintro e zr ⟨rfl, hb1⟩
  have hzr := Lib.hid (hb0.trans (hb1.mono hb0.size))
  clear hb0 hb1 p00 p01
  · have R5 := Lib.hid (Whole.made zr rT #[.int .i64 r.t, .int .i32 r.n] _ rfl)
    have B5 := Lib.hid (hzr.out.alloc hzr.out.size (.cells #[.int .i64 r.t, .int .i32 r.n] rT))
    have G5 := Lib.hid (G3.out.below B5.out G3.out.lt)
    have E5 := Lib.hid (B3.out.trans (B5.out.mono B3.out.size))
    go_wp2_with fail
    generalize zr.alloc (.cells #[.int .i64 r.t, .int .i32 r.n] rT) = v5 at *
    have R6 := Lib.hid R5.out
    clear R5
    generalize zr.heap.size = h at *
    have CT := Lib.hid (fun y (hy : Below v5.heap.size v5 y) => show Below v5.heap.size v5 y ∧ y.cell? ⟨g, 0, none⟩ = some (.int .i64 r.t) ∧ y.cell? ⟨g, 1, none⟩ = some (.int .i32 r.n) ∧ y.cell? ⟨h, 0, none⟩ = some (.int .i64 r.t) ∧ y.cell? ⟨h, 1, none⟩ = some (.int .i32 r.n) from ⟨hy, (G5.out.below hy G5.out.lt).cell 0, (G5.out.below hy G5.out.lt).cell 1, (R6.out.below hy R6.out.lt).cell 0, (R6.out.below hy R6.out.lt).cell 1⟩)
    have L2 := CT.out v5.drew (Below.refl _ _).drew
    have FS := Lib.hid (fun y (hy : Below v5.heap.size v5 y ∧ y.cell? ⟨g, 0, none⟩ = some (.int .i64 r.t) ∧ y.cell? ⟨g, 1, none⟩ = some (.int .i32 r.n) ∧ y.cell? ⟨h, 0, none⟩ = some (.int .i64 r.t) ∧ y.cell? ⟨h, 1, none⟩ = some (.int .i32 r.n)) => (FV.out y).mono (R' := fun e w' => e = .returned (.agg #[.int .i64 r.t, .int .i32 r.n]) ∧ (Below v5.heap.size v5 w' ∧ w'.cell? ⟨g, 0, none⟩ = some (.int .i64 r.t) ∧ w'.cell? ⟨g, 1, none⟩ = some (.int .i32 r.n) ∧ w'.cell? ⟨h, 0, none⟩ = some (.int .i64 r.t) ∧ w'.cell? ⟨h, 1, none⟩ = some (.int .i32 r.n))) (by
      rintro e w' ⟨he, hb⟩
      exact ⟨he, CT.out w' (hy.1.trans (hb.mono hy.1.size))⟩))
    go_region_held3 (fun y => Below v5.heap.size v5 y ∧ y.cell? ⟨g, 0, none⟩ = some (.int .i64 r.t) ∧ y.cell? ⟨g, 1, none⟩ = some (.int .i32 r.n) ∧ y.cell? ⟨h, 0, none⟩ = some (.int .i64 r.t) ∧ y.cell? ⟨h, 1, none⟩ = some (.int .i32 r.n))
      (first | with_reducible assumption | with_reducible exact L2 | fail)
      (first
        | (go_at_call 11; refine (FS.out _ (by assumption)).mono ?_; rintro e y6 ⟨rfl, hy6⟩))
    have E6 := Lib.hid (E5.out.trans (hy6.1.mono E5.out.size))
    clear L2
    go_wp2_with fail
    go_ret
    exact ⟨rfl, E6.out⟩

end Go.Proofs.Ytmgjnalijmplcaa
