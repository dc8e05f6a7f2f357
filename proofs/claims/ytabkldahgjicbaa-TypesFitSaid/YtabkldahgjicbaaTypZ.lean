/- Types: the law TypesFit walked. -/
import Derived.Test.YtabkldahgjicbaaTypV
import Derived.Test.YtabkldahgjicbaaTypY
namespace Go.Proofs.Ytabkldahgjicbaa
open Go.ChangeShapes Go.WideShapes Go.ChangeAt Go.RowKit
set_option linter.unusedVariables false
set_option linter.unusedSimpArgs false

set_option maxHeartbeats 32000000 in
set_option maxRecDepth 100000 in
theorem fit_walk (W : World) (A : Option Addr) (n c : Nat) (f : Nat → OpT) (hO : OpTs W A n f) (hm : n ≤ maxLen) (hz : ∀ j, j < n → (f j).name.size ≤ 140737488355328) :
    Calls Try.prog 5 #[.slice A n c] W fun e w' => e = .returned (.bool true) ∧ Below W.heap.size W w' := by
  have AW := Lib.hid (awake09_any W)
  have PL := Lib.hid (fun w1 (hb : Below W.heap.size W w1) => played_any A n c f W.heap.size w1 hb.size (fun W' h => hO.below (hb.trans h)) hm hz)
  unfold PlayedPost at PL
  clear hO hm hz
  go_enter Try.func5, Try.ntmps5
  go_wp2_with fail
  refine AW.out.mono ?_
  rintro e w1 ⟨rfl, hb1⟩
  have B1 := Lib.hid hb1
  clear hb1 AW
  go_wp2_with fail
  refine (PL.out _ B1.out).mono ?_
  rintro e w2 ⟨p, u, rfl, kk, v, L, M, hk60, _, hRe, hT, hR, hb2⟩
  have B2 := Lib.hid (B1.out.trans hb2)
  obtain ⟨Au, cu, rfl⟩ := row_form hR.rows
  have TT := Lib.hid hT
  have HI := Lib.hid hRe.inv
  have HF := Lib.hid hRe.fit
  have hle : L.length ≤ 4096 := by have h := hRe.inv.len; rw [List.length_map] at h; omega
  have HLE := Lib.hid hle
  have LN := Lib.hid (fun y (hy : Below w2.heap.size w2 y) => len_any p W.heap.size v L y (hT.below hy))
  have GT := Lib.hid (fun (id : Int) (x : Ty) (hx : getT (L.map (·.1)) id = x) y (hy : Below w2.heap.size w2 y) => show Calls Try.prog 11 #[.pointer (some ⟨p, 0, none⟩), .int .i64 id] y fun e w' => ∃ fv', e = .returned (.agg #[.int .i64 x.kind, .int .i64 x.len, .int .i64 x.base, .int .i64 x.size, .bool x.opn, fv']) ∧ Below y.heap.size y w' ∧ w'.ownsRow y.heap.size pF 3 fv' x.fds.length (x.fds.flatMap Fd.cells) from by
    have e1 : (getX L id).1 = x := (getX_fst L id).trans hx
    have g := HI.out.get id
    rw [hx] at g
    have := get_any p W.heap.size v L id y (hT.below hy) hle _ rfl (by rw [e1]; have := g.2.2.1; omega) (by rw [e1]; exact g.2.2.2.1)
    rw [e1] at this
    exact this)
  have hZ2 := B2.out.size
  have HZ2 := Lib.hid hZ2
  have HK := Lib.hid hk60
  have hlm : (L.map (·.1)).length = L.length := List.length_map ..
  have HLM := Lib.hid hlm
  clear hT hR hb2 PL hRe hle hZ2 hlm hk60 B1 TT
  generalize L.map (·.1) = P at *
  go_wp2_with fail
  go_loopw [6] (fun i wr => ∃ t : Nat, t ≤ L.length ∧ i = .int .i64 t ∧ Below w2.heap.size w2 wr) (fun i _ => L.length - (intOf i).toNat)
  case atStart => exact ⟨0, Nat.zero_le _, rfl, Below.refl _ _⟩
  case round =>
    obtain ⟨t, ht, rfl, hbr⟩ := hrel
    have BR := Lib.hid hbr
    have LR := Lib.hid (LN.out wr hbr)
    clear hbr
    have hL96 : L.length ≤ 4096 := HLE.out
    generalize hwo : wr = wo at *
    clear hwo
    go_wp2_with fail
    refine LR.out.mono ?_
    rintro e w3 ⟨rfl, rfl⟩
    clear LR
    by_cases hlt : t < L.length
    · have hI : (t : Int) < L.length := by omega
      generalize hx : getT P t = x
      have GX := Lib.hid (GT.out t x hx wo BR.out)
      have HG := Lib.hid (HI.out.get (t : Int))
      have FX := Lib.hid (HF.out.get (t : Int))
      rw [hx] at HG FX
      obtain ⟨k, ln, bs, sz, op, fds⟩ := x
      clear hx
      simp only at GX
      go_wp2_with fail
      refine GX.out.mono ?_
      rintro e w4 ⟨fv, rfl, hb4, ho4⟩
      obtain ⟨Af, cf, rfl⟩ := row_form ho4
      have b5 := (Below.refl w4.heap.size w4).alloc (Nat.le_refl _) (.cells #[.int .i64 k, .int .i64 ln, .int .i64 bs, .int .i64 sz, .bool op, .slice Af fds.length cf] pT)
      have X5 := Lib.hid (Whole.made w4 pT #[.int .i64 k, .int .i64 ln, .int .i64 bs, .int .i64 sz, .bool op, .slice Af fds.length cf] _ rfl)
      have O5 := Lib.hid (row_below ho4 b5)
      have B5 := Lib.hid ((BR.out.trans (hb4.mono BR.out.size)).trans (b5.mono (Nat.le_trans BR.out.size hb4.size)))
      have x3 : (w4.alloc (.cells #[.int .i64 k, .int .i64 ln, .int .i64 bs, .int .i64 sz, .bool op, .slice Af fds.length cf] pT)).cell? ⟨w4.heap.size, 3, none⟩ = some (.int .i64 sz) := X5.out.cell 3
      have d1 : decide (sz < 0) = false := decide_eq_false (by have : 0 ≤ sz := HG.out.1; omega)
      have d2 : decide (16384 < sz) = false := decide_eq_false (by have : sz ≤ 16384 := HG.out.2.1; omega)
      clear hb4 ho4 b5 GX BR
      go_wp2_with fail
      have hfl : fds.length ≤ 1000 := by have h : fds.length ≤ kk := HG.out.2.2.1; have := HK.out; omega
      have HFL := Lib.hid hfl
      clear hfl x3
      generalize w4.alloc (.cells #[.int .i64 k, .int .i64 ln, .int .i64 bs, .int .i64 sz, .bool op, .slice Af fds.length cf] pT) = V at *
      generalize w4.heap.size = q at *
      have B5V := Lib.hid B5.out.size
      have B5W := Lib.hid B5.out.size
      go_loopw [8, 9] (fun a i wr => ∃ j : Nat, j ≤ fds.length ∧ a = .int .i64 (sumS P (fds.take j)) ∧ i = .int .i64 j ∧ Below V.heap.size V wr) (fun _ i _ => fds.length - (intOf i).toNat)
      case atStart => exact ⟨0, Nat.zero_le _, rfl, rfl, Below.refl _ _⟩
      case round =>
        obtain ⟨j, hj, rfl, rfl, hbv⟩ := hrel
        have BV := Lib.hid hbv
        clear hbv
        generalize wr = wb at *
        have HSB := Lib.hid (sumS_bound HI.out (fds.take j))
        have hj1000 : j ≤ 1000 := Nat.le_trans hj HFL.out
        have x5 : wb.cell? ⟨q, 5, none⟩ = some (.slice Af fds.length cf) := (X5.out.below BV.out X5.out.lt).cell 5
        by_cases hjl : j < fds.length
        · have hJ : (j : Int) < fds.length := by omega
          obtain ⟨_, g, rfl, _, _, hg⟩ := row_cell (f := Fd.cells) (fun _ => rfl) zF (row_below O5.out BV.out) rfl hjl
          have hoff : (fds.getD j zF).off = sumS P (fds.take j) := FX.out.off j hjl
          have hfm : fds.getD j zF ∈ fds := by
            rw [List.getD_eq_getElem?_getD, List.getElem?_eq_getElem hjl]
            exact List.getElem_mem hjl
          have hwh := FX.out.whole _ hfm
          have hin := whole_in hwh
          have hsum : sumS P (fds.take (j + 1)) = sumS P (fds.take j) + (getT P (fds.getD j zF).ty).size := by
            have e : fds.take (j + 1) = fds.take j ++ [fds.getD j zF] := by
              rw [List.take_add_one, List.getD_eq_getElem?_getD, List.getElem?_eq_getElem hjl]
              rfl
            rw [e, sumS_append]
            simp [sumS]
          have hsl : (fds.take j).length = j := by rw [List.length_take]; omega
          have HSU := Lib.hid hsum
          have hgs := (HI.out.get (fds.getD j zF).ty)
          generalize fds.getD j zF = fd at *
          obtain ⟨nm, ty, off⟩ := fd
          have hoff : off = sumS P (fds.take j) := hoff
          subst hoff
          have hsb := HSB.out
          rw [hsl] at hsb
          have hin : 0 ≤ ty ∧ ty < P.length := hin
          rw [HLM.out] at hin
          have hgs1 : 0 ≤ (getT P ty).size := hgs.1
          have hgs2 : (getT P ty).size ≤ 16384 := hgs.2.1
          have a0 : wb.cell? ⟨g, j * 3, none⟩ = some (.string nm) := (hg 0 (by decide)).1
          have a1 : wb.cell? ⟨g, j * 3 + 1, none⟩ = some (.int .i64 ty) := (hg 1 (by decide)).1
          have a2 : wb.cell? ⟨g, j * 3 + 2, none⟩ = some (.int .i64 (sumS P (fds.take j))) := (hg 2 (by decide)).1
          clear hg hfm hwh hsum hsl hgs HSB
          generalize sumS P (fds.take j) = s at *
          have GK := Lib.hid (GT.out ty _ rfl)
          generalize getT P ty = x2 at *
          obtain ⟨k2, l2, b2, s2, o2, f2⟩ := x2
          simp only at hgs1 hgs2 GK HSU
          have QF := Lib.hid (Whole.made wb pF #[.string nm, .int .i64 ty, .int .i64 s] _ rfl)
          have BF := Lib.hid (BV.out.alloc BV.out.size (.cells #[.string nm, .int .i64 ty, .int .i64 s] pF))
          go_wp2_with fail
          generalize wb.alloc (.cells #[.string nm, .int .i64 ty, .int .i64 s] pF) = wc at *
          generalize wb.heap.size = qf at *
          have e1 : decide (ty < 0) = false := decide_eq_false (by omega)
          have e2 : decide ((L.length : Int) ≤ ty) = false := decide_eq_false (by omega)
          have C := Lib.hid (fun y (hy : Below wc.heap.size wc y) => show (fun y => Below wc.heap.size wc y ∧ y.cell? ⟨qf, 1, none⟩ = some (.int .i64 ty) ∧ y.cell? ⟨qf, 2, none⟩ = some (.int .i64 s)) y from ⟨hy, (QF.out.below hy QF.out.lt).cell 1, (QF.out.below hy QF.out.lt).cell 2⟩)
          have L0 := C.out wc.drew (Below.refl _ _).drew
          have LC := Lib.hid (fun y (hy : Below wc.heap.size wc y ∧ y.cell? ⟨qf, 1, none⟩ = some (.int .i64 ty) ∧ y.cell? ⟨qf, 2, none⟩ = some (.int .i64 s)) => LN.out y (B5.out.trans ((BF.out.trans (hy.1.mono BF.out.size)).mono B5V.out)))
          go_region_held3 (fun y => Below wc.heap.size wc y ∧ y.cell? ⟨qf, 1, none⟩ = some (.int .i64 ty) ∧ y.cell? ⟨qf, 2, none⟩ = some (.int .i64 s))
            (first
              | with_reducible assumption
              | with_reducible exact L0
              | fail)
            (first
              | (go_at_call 21; refine (LC.out _ (by assumption)).mono ?_; rintro e y1 ⟨rfl, rfl⟩))
          all_goals
            rename_i hH
            have hc := hH.2.1
            have BH := Lib.hid hH.1
            clear hH L0 C LC QF
            go_wp2_with fail
            refine (GK.out _ (B5.out.trans ((BF.out.trans (BH.out.mono BF.out.size)).mono B5V.out))).mono ?_
            rintro e w9 ⟨fv9, rfl, hb9, _⟩
            have f3 := field_p3 k2 l2 b2 s2 o2 fv9
            have B9 := Lib.hid ((BF.out.trans (BH.out.mono BF.out.size)).trans (hb9.mono (Nat.le_trans BF.out.size BH.out.size)))
            clear hb9 GK BF BH hc
            go_wp2_with fail
            go_roundw
            case rel => exact ⟨j + 1, by omega, by rw [HSU.out], by go_num, B9.out⟩
            case measure => simp [intOf]; omega
        · have hJ : ¬ (j : Int) < fds.length := by omega
          have hjl2 : j = fds.length := by omega
          subst hjl2
          rw [List.take_length] at HSB
          rw [List.take_length]
          have hsb := HSB.out
          generalize hs : sumS P fds = s at *
          have HS := Lib.hid hs
          clear hs HSB
          have C := Lib.hid (fun y (hy : Below V.heap.size V y) => show Below V.heap.size V y ∧ y.cell? ⟨q, 0, none⟩ = some (.int .i64 k) ∧ y.cell? ⟨q, 1, none⟩ = some (.int .i64 ln) ∧ y.cell? ⟨q, 2, none⟩ = some (.int .i64 bs) ∧ y.cell? ⟨q, 3, none⟩ = some (.int .i64 sz) from ⟨hy, (X5.out.below hy X5.out.lt).cell 0, (X5.out.below hy X5.out.lt).cell 1, (X5.out.below hy X5.out.lt).cell 2, (X5.out.below hy X5.out.lt).cell 3⟩)
          have L0 := C.out wb.drew BV.out.drew
          go_wp2_with fail
          by_cases h6 : k = 6
          · have hsum : s = sz := HS.out.symm.trans (FX.out.sum h6)
            obtain ⟨_, l0, l1, l2, l3⟩ := C.out wb BV.out
            clear C FX HS L0 HG d1 d2 X5 O5 B5V x5
            subst h6 hsum
            go_quiet (fail)
            rename_i nq
            have BH := Lib.hid (below_drawn BV.out nq)
            clear l0 l1 l2 l3
            generalize wb.drewN nq = wz at *
            go_wp2_with fail
            go_roundw
            case rel => exact ⟨t + 1, by omega, by go_num, B5.out.trans (BH.out.mono B5W.out)⟩
            case measure => simp [intOf]; omega
          · have d6 : (k == 6) = false := beq_eq_false_iff_ne.2 h6
            by_cases h5 : k = 5
            · obtain ⟨harr, hwh⟩ := FX.out.arr h5
              have harr : sz = ln * (getT P bs).size := harr
              have hwr : IntKind.i64.wrap (ln * (getT P bs).size) = ln * (getT P bs).size := by
                rw [← harr]
                have h1 : 0 ≤ sz := HG.out.1
                have h2 : sz ≤ 16384 := HG.out.2.1
                simp [IntKind.wrap, IntKind.bits, IntKind.signed]
                omega
              have GB := Lib.hid (GT.out bs _ rfl)
              have HARR := Lib.hid harr
              generalize getT P bs = x2 at *
              obtain ⟨k2, l2, b2, s2, o2, f2⟩ := x2
              simp only at hwr HARR GB
              have harr2 : sz = ln * s2 := HARR.out
              clear harr
              subst h5 harr2
              have G20 := Lib.hid (fun y (hy : Below V.heap.size V y ∧ y.cell? ⟨q, 0, none⟩ = some (.int .i64 5) ∧ y.cell? ⟨q, 1, none⟩ = some (.int .i64 ln) ∧ y.cell? ⟨q, 2, none⟩ = some (.int .i64 bs) ∧ y.cell? ⟨q, 3, none⟩ = some (.int .i64 (ln * s2))) => (GB.out y (B5.out.trans (hy.1.mono B5V.out))).mono (R' := fun e w' => ∃ fv', e = .returned (.agg #[.int .i64 k2, .int .i64 l2, .int .i64 b2, .int .i64 s2, .bool o2, fv']) ∧ (Below V.heap.size V w' ∧ w'.cell? ⟨q, 0, none⟩ = some (.int .i64 5) ∧ w'.cell? ⟨q, 1, none⟩ = some (.int .i64 ln) ∧ w'.cell? ⟨q, 2, none⟩ = some (.int .i64 bs) ∧ w'.cell? ⟨q, 3, none⟩ = some (.int .i64 (ln * s2)))) (by
                rintro e w' ⟨fv', he, hb, _⟩
                exact ⟨fv', he, C.out w' (hy.1.trans (hb.mono hy.1.size))⟩))
              clear C GB hwh d6 h6 FX HS HG
              refine wp_region_noPanic ?_
              refine wp_region_held_drew (S := (fun y => Below V.heap.size V y ∧ y.cell? ⟨q, 0, none⟩ = some (.int .i64 5) ∧ y.cell? ⟨q, 1, none⟩ = some (.int .i64 ln) ∧ y.cell? ⟨q, 2, none⟩ = some (.int .i64 bs) ∧ y.cell? ⟨q, 3, none⟩ = some (.int .i64 (ln * s2)))) (by kernel_rfl) L0 (fun hHeld => ?_)
              refine wpAnyH_take (i := 0) (oi := _) (v := .pointer (some ⟨q, 0, none⟩)) rfl (by kernel_rfl) (by kernel_rfl) (by kernel_rfl) (fun _ _ _ h => h) (Or.inl ⟨by rfl, fun w hSw => by (try dsimp only at hSw); go_simp⟩) (by assumption) ?_
              try simp only [Act.put, List.getElem_toArray, List.getElem_cons_succ, List.getElem_cons_zero, List.setIfInBounds_toArray, List.set_cons_zero, List.set_cons_succ]
              refine wpAnyH_take (i := 1) (oi := _) (v := .int .i64 5) rfl (by kernel_rfl) (by kernel_rfl) (by kernel_rfl) (fun _ _ _ h => h) (Or.inl ⟨by rfl, fun w hSw => by (try dsimp only at hSw); go_simp⟩) (by assumption) ?_
              try simp only [Act.put, List.getElem_toArray, List.getElem_cons_succ, List.getElem_cons_zero, List.setIfInBounds_toArray, List.set_cons_zero, List.set_cons_succ]
              refine wpAnyH_take (i := 2) (oi := _) (v := .bool false) rfl (by kernel_rfl) (by kernel_rfl) (by kernel_rfl) (fun _ _ _ h => h) (Or.inl ⟨by rfl, fun w hSw => by (try dsimp only at hSw); go_simp⟩) (by assumption) ?_
              try simp only [Act.put, List.getElem_toArray, List.getElem_cons_succ, List.getElem_cons_zero, List.setIfInBounds_toArray, List.set_cons_zero, List.set_cons_succ]
              refine wpAnyH_take (i := 3) (oi := _) (v := .bool false) rfl (by kernel_rfl) (by kernel_rfl) (by kernel_rfl) (fun _ _ _ h => h) (Or.inl ⟨by rfl, fun w hSw => by (try dsimp only at hSw); go_simp⟩) (by assumption) ?_
              try simp only [Act.put, List.getElem_toArray, List.getElem_cons_succ, List.getElem_cons_zero, List.setIfInBounds_toArray, List.set_cons_zero, List.set_cons_succ]
              refine wpAnyH_take (i := 4) (oi := _) (v := undef) rfl (by kernel_rfl) (by kernel_rfl) (by kernel_rfl) (fun _ _ _ h => h) (Or.inr ⟨by rfl, rfl⟩) (by assumption) ?_
              simp only [Act.put, List.getElem_toArray, List.getElem_cons_succ, List.getElem_cons_zero, List.setIfInBounds_toArray, List.set_cons_zero, List.set_cons_succ]
              refine wpAnyH_take (i := 5) (oi := _) (v := undef) rfl (by kernel_rfl) (by kernel_rfl) (by kernel_rfl) (fun _ _ _ h => h) (Or.inr ⟨by rfl, rfl⟩) (by assumption) ?_
              simp only [Act.put, List.getElem_toArray, List.getElem_cons_succ, List.getElem_cons_zero, List.setIfInBounds_toArray, List.set_cons_zero, List.set_cons_succ]
              refine wpAnyH_take (i := 6) (oi := _) (v := undef) rfl (by kernel_rfl) (by kernel_rfl) (by kernel_rfl) (fun _ _ _ h => h) (Or.inr ⟨by rfl, rfl⟩) (by assumption) ?_
              simp only [Act.put, List.getElem_toArray, List.getElem_cons_succ, List.getElem_cons_zero, List.setIfInBounds_toArray, List.set_cons_zero, List.set_cons_succ]
              refine wpAnyH_take (i := 7) (oi := _) (v := undef) rfl (by kernel_rfl) (by kernel_rfl) (by kernel_rfl) (fun _ _ _ h => h) (Or.inr ⟨by rfl, rfl⟩) (by assumption) ?_
              simp only [Act.put, List.getElem_toArray, List.getElem_cons_succ, List.getElem_cons_zero, List.setIfInBounds_toArray, List.set_cons_zero, List.set_cons_succ]
              refine wpAnyH_take (i := 8) (oi := _) (v := .bool false) rfl (by kernel_rfl) (by kernel_rfl) (by kernel_rfl) (fun _ _ _ h => h) (Or.inl ⟨by rfl, fun w hSw => by (try dsimp only at hSw); go_simp⟩) (by assumption) ?_
              try simp only [Act.put, List.getElem_toArray, List.getElem_cons_succ, List.getElem_cons_zero, List.setIfInBounds_toArray, List.set_cons_zero, List.set_cons_succ]
              refine wpAnyH_take (i := 9) (oi := _) (v := .bool false) rfl (by kernel_rfl) (by kernel_rfl) (by kernel_rfl) (fun _ _ _ h => h) (Or.inl ⟨by rfl, fun w hSw => by (try dsimp only at hSw); go_simp⟩) (by assumption) ?_
              try simp only [Act.put, List.getElem_toArray, List.getElem_cons_succ, List.getElem_cons_zero, List.setIfInBounds_toArray, List.set_cons_zero, List.set_cons_succ]
              refine wpAnyH_take (i := 10) (oi := _) (v := .pointer (some ⟨q, 0, none⟩)) rfl (by kernel_rfl) (by kernel_rfl) (by kernel_rfl) (fun _ _ _ h => h) (Or.inl ⟨by rfl, fun w hSw => by (try dsimp only at hSw); go_simp⟩) (by assumption) ?_
              try simp only [Act.put, List.getElem_toArray, List.getElem_cons_succ, List.getElem_cons_zero, List.setIfInBounds_toArray, List.set_cons_zero, List.set_cons_succ]
              refine wpAnyH_take (i := 11) (oi := _) (v := .int .i64 5) rfl (by kernel_rfl) (by kernel_rfl) (by kernel_rfl) (fun _ _ _ h => h) (Or.inl ⟨by rfl, fun w hSw => by (try dsimp only at hSw); go_simp⟩) (by assumption) ?_
              try simp only [Act.put, List.getElem_toArray, List.getElem_cons_succ, List.getElem_cons_zero, List.setIfInBounds_toArray, List.set_cons_zero, List.set_cons_succ]
              refine wpAnyH_take (i := 12) (oi := _) (v := .bool true) rfl (by kernel_rfl) (by kernel_rfl) (by kernel_rfl) (fun _ _ _ h => h) (Or.inl ⟨by rfl, fun w hSw => by (try dsimp only at hSw); go_simp⟩) (by assumption) ?_
              try simp only [Act.put, List.getElem_toArray, List.getElem_cons_succ, List.getElem_cons_zero, List.setIfInBounds_toArray, List.set_cons_zero, List.set_cons_succ]
              refine wpAnyH_take (i := 13) (oi := _) (v := .bool true) rfl (by kernel_rfl) (by kernel_rfl) (by kernel_rfl) (fun _ _ _ h => h) (Or.inl ⟨by rfl, fun w hSw => by (try dsimp only at hSw); go_simp⟩) (by assumption) ?_
              try simp only [Act.put, List.getElem_toArray, List.getElem_cons_succ, List.getElem_cons_zero, List.setIfInBounds_toArray, List.set_cons_zero, List.set_cons_succ]
              refine wpAnyH_take (i := 14) (oi := _) (v := .pointer (some ⟨q, 3, none⟩)) rfl (by kernel_rfl) (by kernel_rfl) (by kernel_rfl) (fun _ _ _ h => h) (Or.inl ⟨by rfl, fun w hSw => by (try dsimp only at hSw); go_simp⟩) (by assumption) ?_
              try simp only [Act.put, List.getElem_toArray, List.getElem_cons_succ, List.getElem_cons_zero, List.setIfInBounds_toArray, List.set_cons_zero, List.set_cons_succ]
              refine wpAnyH_take (i := 15) (oi := _) (v := .int .i64 (ln * s2)) rfl (by kernel_rfl) (by kernel_rfl) (by kernel_rfl) (fun _ _ _ h => h) (Or.inl ⟨by rfl, fun w hSw => by (try dsimp only at hSw); go_simp⟩) (by assumption) ?_
              try simp only [Act.put, List.getElem_toArray, List.getElem_cons_succ, List.getElem_cons_zero, List.setIfInBounds_toArray, List.set_cons_zero, List.set_cons_succ]
              refine wpAnyH_take (i := 16) (oi := _) (v := .pointer (some ⟨q, 1, none⟩)) rfl (by kernel_rfl) (by kernel_rfl) (by kernel_rfl) (fun _ _ _ h => h) (Or.inl ⟨by rfl, fun w hSw => by (try dsimp only at hSw); go_simp⟩) (by assumption) ?_
              try simp only [Act.put, List.getElem_toArray, List.getElem_cons_succ, List.getElem_cons_zero, List.setIfInBounds_toArray, List.set_cons_zero, List.set_cons_succ]
              refine wpAnyH_take (i := 17) (oi := _) (v := .int .i64 ln) rfl (by kernel_rfl) (by kernel_rfl) (by kernel_rfl) (fun _ _ _ h => h) (Or.inl ⟨by rfl, fun w hSw => by (try dsimp only at hSw); go_simp⟩) (by assumption) ?_
              try simp only [Act.put, List.getElem_toArray, List.getElem_cons_succ, List.getElem_cons_zero, List.setIfInBounds_toArray, List.set_cons_zero, List.set_cons_succ]
              refine wpAnyH_take (i := 18) (oi := _) (v := .pointer (some ⟨p, 0, none⟩)) rfl (by kernel_rfl) (by kernel_rfl) (by kernel_rfl) (fun _ _ _ h => h) (Or.inl ⟨by rfl, fun w hSw => by (try dsimp only at hSw); go_simp⟩) (by assumption) ?_
              try simp only [Act.put, List.getElem_toArray, List.getElem_cons_succ, List.getElem_cons_zero, List.setIfInBounds_toArray, List.set_cons_zero, List.set_cons_succ]
              refine wpAnyH_take (i := 19) (oi := _) (v := .pointer (some ⟨q, 2, none⟩)) rfl (by kernel_rfl) (by kernel_rfl) (by kernel_rfl) (fun _ _ _ h => h) (Or.inl ⟨by rfl, fun w hSw => by (try dsimp only at hSw); go_simp⟩) (by assumption) ?_
              try simp only [Act.put, List.getElem_toArray, List.getElem_cons_succ, List.getElem_cons_zero, List.setIfInBounds_toArray, List.set_cons_zero, List.set_cons_succ]
              refine wpAnyH_take (i := 20) (oi := _) (v := .int .i64 bs) rfl (by kernel_rfl) (by kernel_rfl) (by kernel_rfl) (fun _ _ _ h => h) (Or.inl ⟨by rfl, fun w hSw => by (try dsimp only at hSw); go_simp⟩) (by assumption) ?_
              try simp only [Act.put, List.getElem_toArray, List.getElem_cons_succ, List.getElem_cons_zero, List.setIfInBounds_toArray, List.set_cons_zero, List.set_cons_succ]
              refine wpAnyH_ready (rs := [21]) (by kernel_rfl) (by simp) (AllReadyH.cons (o := _) rfl (fun K hK => ?_) AllReadyH.nil)
              go_simp
              go_at_call 11
              refine (G20.out _ hHeld).mono ?_
              rintro e y1 ⟨fv9, rfl, hS9⟩
              have f3 := field_p3 k2 l2 b2 s2 o2 fv9
              refine hK.out _ _ hS9 (fun hHeld9 => ?_)
              clear hK K
              try simp only [Act.put, List.getElem_toArray, List.getElem_cons_succ, List.getElem_cons_zero, List.setIfInBounds_toArray, List.set_cons_zero, List.set_cons_succ]
              refine wpAnyH_take (i := 22) (oi := _) (v := .int .i64 s2) rfl (by kernel_rfl) (by kernel_rfl) (by kernel_rfl) (fun _ _ _ h => h) (Or.inl ⟨by rfl, fun w hSw => by (try dsimp only at hSw); go_simp⟩) (by assumption) ?_
              try simp only [Act.put, List.getElem_toArray, List.getElem_cons_succ, List.getElem_cons_zero, List.setIfInBounds_toArray, List.set_cons_zero, List.set_cons_succ]
              refine wpAnyH_take (i := 23) (oi := _) (v := .int .i64 (ln * s2)) rfl (by kernel_rfl) (by kernel_rfl) (by kernel_rfl) (fun _ _ _ h => h) (Or.inl ⟨by rfl, fun w hSw => by (try dsimp only at hSw); go_simp⟩) (by assumption) ?_
              try simp only [Act.put, List.getElem_toArray, List.getElem_cons_succ, List.getElem_cons_zero, List.setIfInBounds_toArray, List.set_cons_zero, List.set_cons_succ]
              refine wpAnyH_take (i := 24) (oi := _) (v := .bool false) rfl (by kernel_rfl) (by kernel_rfl) (by kernel_rfl) (fun _ _ _ h => h) (Or.inl ⟨by rfl, fun w hSw => by (try dsimp only at hSw); go_simp⟩) (by assumption) ?_
              try simp only [Act.put, List.getElem_toArray, List.getElem_cons_succ, List.getElem_cons_zero, List.setIfInBounds_toArray, List.set_cons_zero, List.set_cons_succ]
              refine wpAnyH_take (i := 25) (oi := _) (v := .bool false) rfl (by kernel_rfl) (by kernel_rfl) (by kernel_rfl) (fun _ _ _ h => h) (Or.inl ⟨by rfl, fun w hSw => by (try dsimp only at hSw); go_simp⟩) (by assumption) ?_
              try simp only [Act.put, List.getElem_toArray, List.getElem_cons_succ, List.getElem_cons_zero, List.setIfInBounds_toArray, List.set_cons_zero, List.set_cons_succ]
              refine wpAnyH_take (i := 26) (oi := _) (v := .bool false) rfl (by kernel_rfl) (by kernel_rfl) (by kernel_rfl) (fun _ _ _ h => h) (Or.inl ⟨by rfl, fun w hSw => by (try dsimp only at hSw); go_simp⟩) (by assumption) ?_
              try simp only [Act.put, List.getElem_toArray, List.getElem_cons_succ, List.getElem_cons_zero, List.setIfInBounds_toArray, List.set_cons_zero, List.set_cons_succ]
              refine wpAnyH_done (by kernel_rfl) ?_ _
              refine NoPanic.normal ?_
              have BH := Lib.hid hHeld9.1
              clear hHeld9 hHeld hS9 L0 G20 f3
              go_wp2_with fail
              go_roundw
              case rel => exact ⟨t + 1, by omega, by go_num, B5.out.trans (BH.out.mono B5V.out)⟩
              case measure => simp [intOf]; omega
            · have d5 : (k == 5) = false := beq_eq_false_iff_ne.2 h5
              obtain ⟨_, l0, l1, l2, l3⟩ := C.out wb BV.out
              clear C h6 h5 FX HS L0
              go_quiet (fail)
              rename_i nq
              have BH := Lib.hid (below_drawn BV.out nq)
              clear l0 l1 l2 l3
              generalize wb.drewN nq = wz at *
              go_wp2_with fail
              go_roundw
              case rel => exact ⟨t + 1, by omega, by go_num, B5.out.trans (BH.out.mono B5V.out)⟩
              case measure => simp [intOf]; omega
    · have hI : ¬ (t : Int) < L.length := by omega
      go_wp2_with fail
      go_ret
      exact ⟨rfl, B2.out.trans (BR.out.mono HZ2.out)⟩
end Go.Proofs.Ytabkldahgjicbaa
