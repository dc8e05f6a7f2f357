/- Types: the law TypesTells walked. -/
import Derived.Test.YtabkldahgjicbaaTypY
import Derived.Test.YtabkldahgjicbaaTypM
import Derived.Test.YtabkldahgjicbaaTypK
namespace Go.Proofs.Ytabkldahgjicbaa
open Go.ChangeShapes Go.WideShapes Go.ChangeAt Go.RowKit
set_option linter.unusedVariables false
set_option linter.unusedSimpArgs false

set_option maxHeartbeats 32000000 in
set_option maxRecDepth 100000 in
theorem tells_walk (W : World) (A : Option Addr) (n c : Nat) (f : Nat → OpT) (hO : OpTs W A n f) (hm : n ≤ maxLen) (hz : ∀ j, j < n → (f j).name.size ≤ 140737488355328) (o : OpT) :
    Calls Try.prog 4 #[.slice A n c, .agg #[.int .i64 o.kind, .int .i64 o.a, .int .i64 o.b, .string o.name]] W fun e w' => e = .returned (.bool true) ∧ Below W.heap.size W w' := by
  obtain ⟨ok, a, b, nm⟩ := o
  show Calls Try.prog 4 #[.slice A n c, .agg #[.int .i64 ok, .int .i64 a, .int .i64 b, .string nm]] W _
  have b0 := (Below.refl W.heap.size W).alloc (Nat.le_refl _) (.cells #[.int .i64 ok, .int .i64 a, .int .i64 b, .string nm] oT)
  have BA := Lib.hid b0
  have Q0 := Lib.hid (Whole.made W oT #[.int .i64 ok, .int .i64 a, .int .i64 b, .string nm] _ rfl)
  have AW := Lib.hid (fun w => awake09_any w)
  have PL := Lib.hid (fun w0 (h0 : Below W.heap.size W w0) w1 (hb : Below w0.heap.size w0 w1) => played_any A n c f w0.heap.size w1 hb.size (fun W' h => (hO.below h0).below (hb.trans h)) hm hz)
  unfold PlayedPost at PL
  clear hO hm hz b0
  go_enter Try.func4, Try.ntmps4
  go_wp2_with fail
  have PL2 := Lib.hid (PL.out _ BA.out)
  clear PL
  have hV0 := BA.out.size
  have HV0 := Lib.hid hV0
  clear hV0
  generalize W.alloc (.cells #[.int .i64 ok, .int .i64 a, .int .i64 b, .string nm] oT) = w0 at *
  generalize hq : W.heap.size = q at *
  have HQ := Lib.hid hq
  clear hq
  refine (AW.out w0).mono ?_
  rintro e w1 ⟨rfl, hb1⟩
  have B1 := Lib.hid hb1
  clear hb1 AW
  go_wp2_with fail
  refine (PL2.out _ B1.out).mono ?_
  rintro e w2 ⟨p, u, rfl, kk, v, L, M, hk60, hM, hRe, hT, hR, hb2⟩
  have B2 := Lib.hid (B1.out.trans hb2)
  obtain ⟨Au, cu, rfl⟩ := row_form hR.rows
  have hle : L.length ≤ 4096 := by have h := hRe.inv.len; rw [List.length_map] at h; omega
  have hlM : M.length ≤ 4096 := by have h1 := congrArg List.length hM; rw [List.length_map, List.length_map] at h1; omega
  obtain ⟨k, ln, bs, sz, op, fds, Af, cf, hP⟩ := hR.parts a
  have hx : (getX L a).1 = ⟨k, ln, bs, sz, op, fds⟩ := by rw [getX_fst, ← hM, ← getX_fst, hP]
  have hI := hRe.inv.get a
  rw [← getX_fst, hx] at hI
  have hfl : fds.length ≤ 1000 := by have h : fds.length ≤ kk := hI.2.2.1; omega
  have hN : NamesOk fds := hI.2.2.2.1
  have hfr := hR.get a
  rw [hP] at hfr
  have FN := Lib.hid (fun y (hy : Below w2.heap.size w2 y) => find_any p w0.heap.size v L a nm y (hT.below hy) hle _ rfl (by rw [hx]; exact hfl) (by rw [hx]; exact hN))
  have RN := Lib.hid (fun y (hy : Below w2.heap.size w2 y) => reffind_any w0.heap.size (.slice Au M.length cu) M a nm y (hR.below hy) hlM _ rfl (by rw [hP]; exact hfl))
  have GN := Lib.hid (fun y (hy : Below w2.heap.size w2 y) => get_any p w0.heap.size v L a y (hT.below hy) hle _ rfl (by rw [hx]; exact hfl) (by rw [hx]; exact hN))
  have RG := Lib.hid (fun y (hy : Below w2.heap.size w2 y) => refget_any w0.heap.size (.slice Au M.length cu) M a y (hR.below hy) hlM _ rfl)
  have S1 := Lib.hid (fun y (hy : Below w2.heap.size w2 y) => simple_any p w0.heap.size v L a y (hT.below hy) hle _ rfl)
  have S2 := Lib.hid (fun y (hy : Below w2.heap.size w2 y) => refsimple_any w0.heap.size (.slice Au M.length cu) M a y (hR.below hy) hlM _ rfl)
  have T1 := Lib.hid (fun y (hy : Below w2.heap.size w2 y) => takes_any p w0.heap.size v L a b y (hT.below hy) hle)
  have T2 := Lib.hid (fun y (hy : Below w2.heap.size w2 y) => reftakes_any w0.heap.size (.slice Au M.length cu) M a b y (hR.below hy) hlM)
  have E1 := Lib.hid (fun y (hy : Below w2.heap.size w2 y) => equals_any p w0.heap.size v L a b y (hT.below hy) hle)
  have E2 := Lib.hid (fun y (hy : Below w2.heap.size w2 y) => refequals_any w0.heap.size (.slice Au M.length cu) M a b y (hR.below hy) hlM)
  have O1 := Lib.hid (fun y (hy : Below w2.heap.size w2 y) => ordered_any p w0.heap.size v L a y (hT.below hy) hle _ rfl)
  have O2 := Lib.hid (fun y (hy : Below w2.heap.size w2 y) => reford_any w0.heap.size (.slice Au M.length cu) M a y (hR.below hy) hlM _ rfl)
  rw [hx] at FN GN S1 O1
  rw [hP] at RN RG S2 O2
  simp only [hM] at T2 E2
  have tsame := takes_same hRe.inv a b
  have esame := equals_same hRe.inv a b
  have ssame := simple_same ⟨k, ln, bs, sz, op, fds⟩
  simp only [← tsame] at T2
  simp only [← esame] at E2
  simp only [ssame] at S2
  have FR := Lib.hid hfr
  have HFL := Lib.hid hfl
  have Q2 := Lib.hid ((show Whole w2 q oT #[.int .i64 ok, .int .i64 a, .int .i64 b, .string nm] from (B2.out.block q Q0.out.lt).trans Q0.out))
  clear hT hR hb2 PL2 hRe hle hlM hP hx hI hfl hN hfr tsame esame ssame hM hk60
  generalize findP ⟨k, ln, bs, sz, op, fds⟩ nm = fr at *
  generalize simpleB ⟨k, ln, bs, sz, op, fds⟩ = rs at *
  generalize orderedB ⟨k, ln, bs, sz, op, fds⟩ = ro at *
  generalize takesB (L.map (·.1)) a b = rt at *
  generalize equalsB (L.map (·.1)) a b = re at *
  obtain ⟨⟨fn, ft, fo⟩, fc⟩ := fr
  simp only at FN GN S1 O1 RN RG S2 O2
  have p1 : w2.cell? ⟨q, 1, none⟩ = some (.int .i64 a) := Q2.out.cell 1
  have p2 : w2.cell? ⟨q, 2, none⟩ = some (.int .i64 b) := Q2.out.cell 2
  have p3 : w2.cell? ⟨q, 3, none⟩ = some (.string nm) := Q2.out.cell 3
  go_wp2_with fail
  refine (FN.out _ (Below.refl _ _)).mono ?_
  rintro e w3 ⟨rfl, hb3⟩
  have b3 := (Below.refl w3.heap.size w3).alloc (Nat.le_refl _) (.cells #[.string fn, .int .i64 ft, .int .i64 fo] pF)
  have QF := Lib.hid (Whole.made w3 pF #[.string fn, .int .i64 ft, .int .i64 fo] _ rfl)
  have B3 := Lib.hid (hb3.trans (b3.mono hb3.size))
  have Q3 := Lib.hid (Q2.out.below B3.out Q2.out.lt)
  have Z3 := Lib.hid b3.size
  clear hb3 b3 FN p1 p2 p3
  have p1 : (w3.alloc (.cells #[.string fn, .int .i64 ft, .int .i64 fo] pF)).cell? ⟨q, 1, none⟩ = some (.int .i64 a) := Q3.out.cell 1
  have p3 : (w3.alloc (.cells #[.string fn, .int .i64 ft, .int .i64 fo] pF)).cell? ⟨q, 3, none⟩ = some (.string nm) := Q3.out.cell 3
  go_wp2_with fail
  generalize w3.alloc (.cells #[.string fn, .int .i64 ft, .int .i64 fo] pF) = v3 at *
  generalize w3.heap.size = qf at *
  refine (RN.out _ B3.out).mono ?_
  rintro e w4 ⟨rfl, hb4⟩
  have b4 := (Below.refl w4.heap.size w4).alloc (Nat.le_refl _) (.cells #[.string fn, .int .i64 ft, .int .i64 fo] rF)
  have b34 := hb4.trans (b4.mono hb4.size)
  have QG := Lib.hid (Whole.made w4 rF #[.string fn, .int .i64 ft, .int .i64 fo] _ rfl)
  have B4 := Lib.hid (B3.out.trans (b34.mono B3.out.size))
  have QF4 := Lib.hid (QF.out.below b34 QF.out.lt)
  have Q4 := Lib.hid (Q3.out.below b34 Q3.out.lt)
  clear hb4 b4 b34 RN p1 p3 QF Q3 Z3 B3
  go_wp2_with fail
  generalize w4.alloc (.cells #[.string fn, .int .i64 ft, .int .i64 fo] rF) = V at *
  generalize w4.heap.size = qg at *
  have C8 := Lib.hid (fun y (hy : Below V.heap.size V y) => show Below V.heap.size V y ∧ y.cell? ⟨qf, 0, none⟩ = some (.string fn) ∧ y.cell? ⟨qf, 1, none⟩ = some (.int .i64 ft) ∧ y.cell? ⟨qf, 2, none⟩ = some (.int .i64 fo) ∧ y.cell? ⟨qg, 0, none⟩ = some (.string fn) ∧ y.cell? ⟨qg, 1, none⟩ = some (.int .i64 ft) ∧ y.cell? ⟨qg, 2, none⟩ = some (.int .i64 fo) ∧ y.cell? ⟨q, 1, none⟩ = some (.int .i64 a) from ⟨hy, (QF4.out.below hy QF4.out.lt).cell 0, (QF4.out.below hy QF4.out.lt).cell 1, (QF4.out.below hy QF4.out.lt).cell 2, (QG.out.below hy QG.out.lt).cell 0, (QG.out.below hy QG.out.lt).cell 1, (QG.out.below hy QG.out.lt).cell 2, (Q4.out.below hy Q4.out.lt).cell 1⟩)
  have C10 := Lib.hid (fun y (hy : Below V.heap.size V y) => show Below V.heap.size V y ∧ y.cell? ⟨q, 1, none⟩ = some (.int .i64 a) ∧ y.cell? ⟨q, 2, none⟩ = some (.int .i64 b) from ⟨hy, (Q4.out.below hy Q4.out.lt).cell 1, (Q4.out.below hy Q4.out.lt).cell 2⟩)
  have hz := Lib.hid B4.out.size
  have K := Lib.hid (fun y (hy : Below V.heap.size V y) => B4.out.trans (hy.mono hz.out))
  have G8 := Lib.hid (fun y (hy : Below V.heap.size V y ∧ y.cell? ⟨qf, 0, none⟩ = some (.string fn) ∧ y.cell? ⟨qf, 1, none⟩ = some (.int .i64 ft) ∧ y.cell? ⟨qf, 2, none⟩ = some (.int .i64 fo) ∧ y.cell? ⟨qg, 0, none⟩ = some (.string fn) ∧ y.cell? ⟨qg, 1, none⟩ = some (.int .i64 ft) ∧ y.cell? ⟨qg, 2, none⟩ = some (.int .i64 fo) ∧ y.cell? ⟨q, 1, none⟩ = some (.int .i64 a)) => (GN.out y (K.out y hy.1)).mono (R' := fun e w' => ∃ fv', e = .returned (.agg #[.int .i64 k, .int .i64 ln, .int .i64 bs, .int .i64 sz, .bool op, fv']) ∧ (Below V.heap.size V w' ∧ w'.cell? ⟨qf, 0, none⟩ = some (.string fn) ∧ w'.cell? ⟨qf, 1, none⟩ = some (.int .i64 ft) ∧ w'.cell? ⟨qf, 2, none⟩ = some (.int .i64 fo) ∧ w'.cell? ⟨qg, 0, none⟩ = some (.string fn) ∧ w'.cell? ⟨qg, 1, none⟩ = some (.int .i64 ft) ∧ w'.cell? ⟨qg, 2, none⟩ = some (.int .i64 fo) ∧ w'.cell? ⟨q, 1, none⟩ = some (.int .i64 a)) ∧ w'.ownsRow V.heap.size pF 3 fv' fds.length (fds.flatMap Fd.cells)) (by
    rintro e w' ⟨fv', he, hb, ho⟩
    exact ⟨fv', he, C8.out w' (hy.1.trans (hb.mono hy.1.size)), row_more ho hy.1.size⟩))
  have R8 := Lib.hid (fun y (hy : Below V.heap.size V y ∧ y.cell? ⟨qf, 0, none⟩ = some (.string fn) ∧ y.cell? ⟨qf, 1, none⟩ = some (.int .i64 ft) ∧ y.cell? ⟨qf, 2, none⟩ = some (.int .i64 fo) ∧ y.cell? ⟨qg, 0, none⟩ = some (.string fn) ∧ y.cell? ⟨qg, 1, none⟩ = some (.int .i64 ft) ∧ y.cell? ⟨qg, 2, none⟩ = some (.int .i64 fo) ∧ y.cell? ⟨q, 1, none⟩ = some (.int .i64 a)) => (RG.out y (K.out y hy.1)).mono (R' := fun e w' => e = .returned (.agg #[.int .i64 k, .int .i64 ln, .int .i64 bs, .int .i64 sz, .bool op, .slice Af fds.length cf]) ∧ (Below V.heap.size V w' ∧ w'.cell? ⟨qf, 0, none⟩ = some (.string fn) ∧ w'.cell? ⟨qf, 1, none⟩ = some (.int .i64 ft) ∧ w'.cell? ⟨qf, 2, none⟩ = some (.int .i64 fo) ∧ w'.cell? ⟨qg, 0, none⟩ = some (.string fn) ∧ w'.cell? ⟨qg, 1, none⟩ = some (.int .i64 ft) ∧ w'.cell? ⟨qg, 2, none⟩ = some (.int .i64 fo) ∧ w'.cell? ⟨q, 1, none⟩ = some (.int .i64 a)) ∧ Below y.heap.size y w') (by
    rintro e w' ⟨he, hb⟩
    exact ⟨he, C8.out w' (hy.1.trans (hb.mono hy.1.size)), hb⟩))
  have I8 := Lib.hid (fun y fv' (hy : Below V.heap.size V y ∧ y.cell? ⟨qf, 0, none⟩ = some (.string fn) ∧ y.cell? ⟨qf, 1, none⟩ = some (.int .i64 ft) ∧ y.cell? ⟨qf, 2, none⟩ = some (.int .i64 fo) ∧ y.cell? ⟨qg, 0, none⟩ = some (.string fn) ∧ y.cell? ⟨qg, 1, none⟩ = some (.int .i64 ft) ∧ y.cell? ⟨qg, 2, none⟩ = some (.int .i64 fo) ∧ y.cell? ⟨q, 1, none⟩ = some (.int .i64 a)) (ho : y.ownsRow V.heap.size pF 3 fv' fds.length (fds.flatMap Fd.cells)) => (is_any k ln bs sz op fds fv' (.slice Af fds.length cf) _ _ y ho (row_below FR.out (K.out y hy.1)) HFL.out).mono (R' := fun e w' => e = .returned (.bool true) ∧ (Below V.heap.size V w' ∧ w'.cell? ⟨qf, 0, none⟩ = some (.string fn) ∧ w'.cell? ⟨qf, 1, none⟩ = some (.int .i64 ft) ∧ w'.cell? ⟨qf, 2, none⟩ = some (.int .i64 fo) ∧ w'.cell? ⟨qg, 0, none⟩ = some (.string fn) ∧ w'.cell? ⟨qg, 1, none⟩ = some (.int .i64 ft) ∧ w'.cell? ⟨qg, 2, none⟩ = some (.int .i64 fo) ∧ w'.cell? ⟨q, 1, none⟩ = some (.int .i64 a))) (by
    rintro e w' ⟨he, hb⟩
    exact ⟨he, C8.out w' (hy.1.trans (hb.mono hy.1.size))⟩))
  have S1x := Lib.hid (fun y (hy : Below V.heap.size V y ∧ y.cell? ⟨q, 1, none⟩ = some (.int .i64 a) ∧ y.cell? ⟨q, 2, none⟩ = some (.int .i64 b)) => (S1.out y (K.out y hy.1)).mono (R' := fun e w' => e = .returned (.bool rs) ∧ (Below V.heap.size V w' ∧ w'.cell? ⟨q, 1, none⟩ = some (.int .i64 a) ∧ w'.cell? ⟨q, 2, none⟩ = some (.int .i64 b))) (by
    rintro e w' ⟨he, hb⟩
    exact ⟨he, C10.out w' (hy.1.trans (hb.mono hy.1.size))⟩))
  have S2x := Lib.hid (fun y (hy : Below V.heap.size V y ∧ y.cell? ⟨q, 1, none⟩ = some (.int .i64 a) ∧ y.cell? ⟨q, 2, none⟩ = some (.int .i64 b)) => (S2.out y (K.out y hy.1)).mono (R' := fun e w' => e = .returned (.bool rs) ∧ (Below V.heap.size V w' ∧ w'.cell? ⟨q, 1, none⟩ = some (.int .i64 a) ∧ w'.cell? ⟨q, 2, none⟩ = some (.int .i64 b))) (by
    rintro e w' ⟨he, hb⟩
    exact ⟨he, C10.out w' (hy.1.trans (hb.mono hy.1.size))⟩))
  have T1x := Lib.hid (fun y (hy : Below V.heap.size V y ∧ y.cell? ⟨q, 1, none⟩ = some (.int .i64 a) ∧ y.cell? ⟨q, 2, none⟩ = some (.int .i64 b)) => (T1.out y (K.out y hy.1)).mono (R' := fun e w' => e = .returned (.bool rt) ∧ (Below V.heap.size V w' ∧ w'.cell? ⟨q, 1, none⟩ = some (.int .i64 a) ∧ w'.cell? ⟨q, 2, none⟩ = some (.int .i64 b))) (by
    rintro e w' ⟨he, hb⟩
    exact ⟨he, C10.out w' (hy.1.trans (hb.mono hy.1.size))⟩))
  have T2x := Lib.hid (fun y (hy : Below V.heap.size V y ∧ y.cell? ⟨q, 1, none⟩ = some (.int .i64 a) ∧ y.cell? ⟨q, 2, none⟩ = some (.int .i64 b)) => (T2.out y (K.out y hy.1)).mono (R' := fun e w' => e = .returned (.bool rt) ∧ (Below V.heap.size V w' ∧ w'.cell? ⟨q, 1, none⟩ = some (.int .i64 a) ∧ w'.cell? ⟨q, 2, none⟩ = some (.int .i64 b))) (by
    rintro e w' ⟨he, hb⟩
    exact ⟨he, C10.out w' (hy.1.trans (hb.mono hy.1.size))⟩))
  have E1x := Lib.hid (fun y (hy : Below V.heap.size V y ∧ y.cell? ⟨q, 1, none⟩ = some (.int .i64 a) ∧ y.cell? ⟨q, 2, none⟩ = some (.int .i64 b)) => (E1.out y (K.out y hy.1)).mono (R' := fun e w' => e = .returned (.bool re) ∧ (Below V.heap.size V w' ∧ w'.cell? ⟨q, 1, none⟩ = some (.int .i64 a) ∧ w'.cell? ⟨q, 2, none⟩ = some (.int .i64 b))) (by
    rintro e w' ⟨he, hb⟩
    exact ⟨he, C10.out w' (hy.1.trans (hb.mono hy.1.size))⟩))
  have E2x := Lib.hid (fun y (hy : Below V.heap.size V y ∧ y.cell? ⟨q, 1, none⟩ = some (.int .i64 a) ∧ y.cell? ⟨q, 2, none⟩ = some (.int .i64 b)) => (E2.out y (K.out y hy.1)).mono (R' := fun e w' => e = .returned (.bool re) ∧ (Below V.heap.size V w' ∧ w'.cell? ⟨q, 1, none⟩ = some (.int .i64 a) ∧ w'.cell? ⟨q, 2, none⟩ = some (.int .i64 b))) (by
    rintro e w' ⟨he, hb⟩
    exact ⟨he, C10.out w' (hy.1.trans (hb.mono hy.1.size))⟩))
  have O1x := Lib.hid (fun y (hy : Below V.heap.size V y ∧ y.cell? ⟨q, 1, none⟩ = some (.int .i64 a) ∧ y.cell? ⟨q, 2, none⟩ = some (.int .i64 b)) => (O1.out y (K.out y hy.1)).mono (R' := fun e w' => e = .returned (.bool ro) ∧ (Below V.heap.size V w' ∧ w'.cell? ⟨q, 1, none⟩ = some (.int .i64 a) ∧ w'.cell? ⟨q, 2, none⟩ = some (.int .i64 b))) (by
    rintro e w' ⟨he, hb⟩
    exact ⟨he, C10.out w' (hy.1.trans (hb.mono hy.1.size))⟩))
  have O2x := Lib.hid (fun y (hy : Below V.heap.size V y ∧ y.cell? ⟨q, 1, none⟩ = some (.int .i64 a) ∧ y.cell? ⟨q, 2, none⟩ = some (.int .i64 b)) => (O2.out y (K.out y hy.1)).mono (R' := fun e w' => e = .returned (.bool ro) ∧ (Below V.heap.size V w' ∧ w'.cell? ⟨q, 1, none⟩ = some (.int .i64 a) ∧ w'.cell? ⟨q, 2, none⟩ = some (.int .i64 b))) (by
    rintro e w' ⟨he, hb⟩
    exact ⟨he, C10.out w' (hy.1.trans (hb.mono hy.1.size))⟩))
  have L0 := C8.out V.drew (Below.refl _ _).drew
  clear GN RG S1 S2 T1 T2 E1 E2 O1 O2 FR HFL C8 QF4 QG
  go_region_held3 (fun y => Below V.heap.size V y ∧ y.cell? ⟨qf, 0, none⟩ = some (.string fn) ∧ y.cell? ⟨qf, 1, none⟩ = some (.int .i64 ft) ∧ y.cell? ⟨qf, 2, none⟩ = some (.int .i64 fo) ∧ y.cell? ⟨qg, 0, none⟩ = some (.string fn) ∧ y.cell? ⟨qg, 1, none⟩ = some (.int .i64 ft) ∧ y.cell? ⟨qg, 2, none⟩ = some (.int .i64 fo) ∧ y.cell? ⟨q, 1, none⟩ = some (.int .i64 a))
    (first
      | with_reducible assumption
      | with_reducible exact L0
      | fail)
    (first
      | (go_at_call 11; refine (G8.out _ (by assumption)).mono ?_; rintro e y1 ⟨fv', rfl, hS1, hO1⟩)
      | (go_at_call 12; refine (R8.out _ (by assumption)).mono ?_; rintro e y2 ⟨rfl, hS2, hb2⟩; have hO2 := row_below hO1 hb2; clear hb2 hO1)
      | (go_at_call 12; refine (R8.out _ (by assumption)).mono ?_; rintro e y2 ⟨rfl, hS2, hb2⟩; clear hb2)
      | (go_at_call 10; refine (I8.out _ _ (by assumption) hO2).mono ?_; rintro e y3 ⟨rfl, hS3⟩)
      | (go_at_call 10; refine (I8.out _ _ (by assumption) hO1).mono ?_; rintro e y3 ⟨rfl, hS3⟩))
  all_goals
    rename_i hH
    have BZ := Lib.hid hH.1
    have L1 := C10.out y3.drew BZ.out.drew
    clear hH L0 hS3
    go_wp2_with fail
    go_region_held3 (fun y => Below V.heap.size V y ∧ y.cell? ⟨q, 1, none⟩ = some (.int .i64 a) ∧ y.cell? ⟨q, 2, none⟩ = some (.int .i64 b))
      (first
        | with_reducible assumption
        | with_reducible exact L1
        | fail)
      (first
        | (go_at_call 13; refine (S1x.out _ (by assumption)).mono ?_; rintro e zS ⟨rfl, hS⟩)
        | (go_at_call 14; refine (S2x.out _ (by assumption)).mono ?_; rintro e yS ⟨rfl, gS⟩)
        | (go_at_call 15; refine (T1x.out _ (by assumption)).mono ?_; rintro e zT ⟨rfl, hT⟩)
        | (go_at_call 16; refine (T2x.out _ (by assumption)).mono ?_; rintro e yT ⟨rfl, gT⟩)
        | (go_at_call 17; refine (E1x.out _ (by assumption)).mono ?_; rintro e zE ⟨rfl, hE⟩)
        | (go_at_call 18; refine (E2x.out _ (by assumption)).mono ?_; rintro e yE ⟨rfl, gE⟩)
        | (go_at_call 19; refine (O1x.out _ (by assumption)).mono ?_; rintro e zO ⟨rfl, hO⟩)
        | (go_at_call 20; refine (O2x.out _ (by assumption)).mono ?_; rintro e yO ⟨rfl, gO⟩))
    all_goals
      rename_i hH
      have BH := Lib.hid hH.1
      clear hH
      go_wp2_with fail
      go_ret
      exact ⟨rfl, by rw [HQ.out]; exact BA.out.trans ((B2.out.trans ((B4.out.trans (BH.out.mono hz.out)).mono B2.out.size)).mono HV0.out)⟩
end Go.Proofs.Ytabkldahgjicbaa
