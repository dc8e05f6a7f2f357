/- Types: the laws' played. -/
import Derived.Test.YtabkldahgjicbaaTypX
import Derived.Test.YtabkldahgjicbaaTypU
namespace Go.Proofs.Ytabkldahgjicbaa
open Go.ChangeShapes Go.WideShapes Go.ChangeAt Go.RowKit
set_option linter.unusedVariables false
set_option linter.unusedSimpArgs false

/-- What played leaves: the same types at both. -/
def PlayedPost (B : Nat) (w : World) (e : Ending) (w' : World) : Prop :=
  ∃ p u, e = .returned (.tuple #[.pointer (some ⟨p, 0, none⟩), u, .bool true]) ∧ ∃ k v L M, k ≤ 60 ∧ M.map (·.1) = L.map (·.1) ∧ Reached k (L.map (·.1)) ∧ TabAt w' B p v L ∧ RowsX rT rF w' B u M ∧ Below B w w'

set_option maxHeartbeats 32000000 in
set_option maxRecDepth 100000 in
theorem played_any (A : Option Addr) (n c : Nat) (f : Nat → OpT) (B : Nat) (w : World) (hB : B ≤ w.heap.size) (hO : ∀ W, Below B w W → OpTs W A n f) (hm : n ≤ maxLen) (hN : ∀ j, j < n → (f j).name.size ≤ 140737488355328) :
    Calls Try.prog 7 #[.slice A n c] w (PlayedPost B w) := by
  unfold maxLen at hm
  have NW := Lib.hid (fun w1 (hb : B ≤ w1.heap.size) => new_any B w1 hb)
  have RW := Lib.hid (fun w1 (hb : B ≤ w1.heap.size) => refnew_any B w1 hb)
  have HO := Lib.hid hO
  have HN := Lib.hid hN
  have HB := Lib.hid hB
  clear hO hN
  unfold PlayedPost
  go_enter Try.func7, Try.ntmps7
  go_wp2_with fail
  refine (NW.out w hB).mono ?_
  rintro e w1 ⟨p, v0, rfl, hT1, hb1⟩
  have R1 := Lib.hid (RW.out w1 (Nat.le_trans hB hb1.size))
  have T1 := Lib.hid hT1
  have B1 := Lib.hid hb1
  clear hT1 hb1 NW RW
  go_wp2_with fail
  refine R1.out.mono ?_
  rintro e w2 ⟨u0, rfl, hR2, hb2⟩
  have R2 := Lib.hid hR2
  have T2 := Lib.hid (T1.out.below hb2)
  have B2 := Lib.hid ((B1.out.mono hB).trans (hb2.mono (Nat.le_trans hB B1.out.size)))
  have Z2 := Lib.hid (Nat.le_trans B1.out.size hb2.size)
  clear hR2 hb2 R1 T1 B1
  go_wp2_with fail
  go_loopw [6, 7] (fun u i wr => ∃ (t : Nat) (v : Value) (L M : List Tx), t ≤ n ∧ t ≤ 60 ∧ i = .int .i64 t ∧ M.map (·.1) = L.map (·.1) ∧ Reached t (L.map (·.1)) ∧ TabAt wr B p v L ∧ RowsX rT rF wr B u M ∧ Below B w wr) (fun _ i _ => n - (intOf i).toNat)
  case atStart => exact ⟨0, v0, newX, newX, Nat.zero_le _, Nat.zero_le _, rfl, rfl, Reached.start, T2.out, R2.out, B2.out⟩
  case round =>
    clear T2 R2 B2 Z2
    obtain ⟨t, v, L, M, ht, ht6, rfl, hM, hRe, hT, hR, hb⟩ := hrel
    obtain ⟨Au, cu, rfl⟩ := row_form hR.rows
    have HM := Lib.hid hM
    have TT := Lib.hid hT
    have RR := Lib.hid hR
    have RE := Lib.hid hRe
    have BW := Lib.hid hb
    have hlen : M.length = L.length := by
      have h := congrArg List.length hM
      rwa [List.length_map, List.length_map] at h
    have HL := Lib.hid hlen
    clear hM hT hR hRe hb hlen
    by_cases hlt : t < n ∧ t < 60
    · have hI : (t : Int) < n := by omega
      have hI6 : (t : Int) < 60 := by omega
      obtain ⟨b, off, rfl, _, hc⟩ := (HO.out wr BW.out).1 (by omega)
      obtain ⟨c0, c1, c2, c3⟩ := hc t hlt.1
      have DO := Lib.hid (do_any p B v (.slice Au M.length cu) L M t (f t) wr TT.out RR.out HM.out RE.out.inv (by omega) (Nat.le_trans HB.out BW.out.size) (HN.out t hlt.1))
      have ST := Lib.hid (RE.out.step (HN.out t hlt.1))
      generalize f t = o at *
      unfold DoPost at DO
      generalize doP (L.map (·.1)) o = D at *
      clear hc RR TT
      go_wp2_with fail
      refine DO.out.mono ?_
      rintro e w3 ⟨v3, L3, u3, M3, rfl, hL3, hM3, hT3, hR3, hK3⟩
      have hz3 := Nat.le_trans HB.out BW.out.size
      have B3 := Lib.hid (KeptT.below BW.out hK3 hz3)
      obtain ⟨A3, c3', rfl⟩ := row_form hR3.rows
      have hl3 : M3.length = L3.length := by
        have h := congrArg List.length (hM3.trans hL3.symm)
        rwa [List.length_map, List.length_map] at h
      have HM3 := Lib.hid (hM3.trans hL3.symm)
      have HL3 := Lib.hid hL3
      have T3 := Lib.hid hT3
      have R3 := Lib.hid hR3
      have LN := Lib.hid (len_any p B v3 L3 w3 hT3)
      rw [← hl3] at LN
      clear hL3 hM3 hT3 hR3 hK3 hz3 DO hl3 c0 c1 c2 c3 BW
      go_wp2_with fail
      refine LN.out.mono ?_
      rintro e w4 ⟨rfl, rfl⟩
      clear LN
      go_wp2_with fail
      go_roundw
      case rel => exact ⟨t + 1, v3, L3, M3, by omega, by omega, by go_num, HM3.out, by rw [HL3.out]; exact ST.out, T3.out, R3.out, B3.out⟩
      case measure => simp [intOf]; omega
    · have hE : (¬ (t : Int) < n) ∨ ((t : Int) < n ∧ ¬ (t : Int) < 60) := by omega
      rcases hE with hI | ⟨hI, hI6⟩
      · clear hlt
        generalize wr = wo at *
        go_wp2_with fail
        go_loopw [10] (fun i wq => ∃ j : Nat, j ≤ M.length ∧ i = .int .i64 j ∧ Below wo.heap.size wo wq) (fun i _ => M.length - (intOf i).toNat)
        case atStart => exact ⟨0, Nat.zero_le _, rfl, Below.refl _ _⟩
        case round =>
          obtain ⟨j, hj, rfl, hbq⟩ := hrel
          have BQ := Lib.hid hbq
          clear hbq
          by_cases hjl : j < M.length
          · have hJ : (j : Int) < M.length := by omega
            obtain ⟨hcap, g, rfl, _, hgl, hg⟩ := row_cell (f := txCells) (fun _ => rfl) zX RR.out.rows rfl hjl
            obtain ⟨k, ln, bs, sz, op, fds, Af, cf, hP⟩ := RR.out.parts (j : Int)
            have hfr := RR.out.get (j : Int)
            rw [hP] at hfr
            have hxL : (getX L (j : Int)).1 = ⟨k, ln, bs, sz, op, fds⟩ := by rw [getX_fst, ← HM.out, ← getX_fst, hP]
            have hI2 := RE.out.inv.get (j : Int)
            rw [← getX_fst, hxL] at hI2
            rw [getX_in hjl] at hP
            rw [hP] at hg
            have hle : L.length ≤ 4096 := by have h := RE.out.inv.len; rw [List.length_map] at h; omega
            have hM96 : M.length ≤ 4096 := by have := HL.out; omega
            have GT := Lib.hid (fun W (hW : Below wo.heap.size wo W) => get_any p B v L (j : Int) W (TT.out.below hW) hle _ rfl (by rw [hxL]; have := hI2.2.2.1; simp only at this ⊢; omega) (by rw [hxL]; exact hI2.2.2.2.1))
            rw [hxL] at GT
            have HF := Lib.hid (show fds.length ≤ 1000 from by have := hI2.2.2.1; simp only at this; omega)
            have FR := Lib.hid hfr
            have C := Lib.hid (fun y (hy : Below wo.heap.size wo y) => show (fun y => y.cell? ⟨g, j * 6, none⟩ = some (.int .i64 k) ∧ y.cell? ⟨g, j * 6 + 1, none⟩ = some (.int .i64 ln) ∧ y.cell? ⟨g, j * 6 + 2, none⟩ = some (.int .i64 bs) ∧ y.cell? ⟨g, j * 6 + 3, none⟩ = some (.int .i64 sz) ∧ y.cell? ⟨g, j * 6 + 4, none⟩ = some (.bool op) ∧ y.cell? ⟨g, j * 6 + 5, none⟩ = some (.slice Af fds.length cf)) y from ⟨cell_later (hg 0 (by decide)).1 hy, cell_later (hg 1 (by decide)).1 hy, cell_later (hg 2 (by decide)).1 hy, cell_later (hg 3 (by decide)).1 hy, cell_later (hg 4 (by decide)).1 hy, cell_later (hg 5 (by decide)).1 hy⟩)
            have L0 := C.out wr.drew BQ.out.drew
            clear hg hfr hI2 hxL hP hle hgl
            go_wp2_with fail
            go_region_held3 (fun y => y.cell? ⟨g, j * 6, none⟩ = some (.int .i64 k) ∧ y.cell? ⟨g, j * 6 + 1, none⟩ = some (.int .i64 ln) ∧ y.cell? ⟨g, j * 6 + 2, none⟩ = some (.int .i64 bs) ∧ y.cell? ⟨g, j * 6 + 3, none⟩ = some (.int .i64 sz) ∧ y.cell? ⟨g, j * 6 + 4, none⟩ = some (.bool op) ∧ y.cell? ⟨g, j * 6 + 5, none⟩ = some (.slice Af fds.length cf))
              (first
                | with_reducible assumption
                | with_reducible exact L0
                | with_reducible exact S1.out
                | with_reducible exact S2.out
                | fail)
              (first
                | (go_at_call 11; refine (GT.out _ BQ.out.drew).mono ?_; rintro e y1 ⟨fv', rfl, hb1, ho1⟩; have b1 := BQ.out.drew.trans (hb1.mono BQ.out.size); have S1 := Lib.hid (C.out y1 b1); have B1 := Lib.hid b1; have IS := Lib.hid (is_any k ln bs sz op fds fv' (.slice Af fds.length cf) _ _ y1 ho1 (row_below FR.out b1) HF.out); clear hb1 ho1 b1)
                | (go_at_call 10; refine IS.out.mono ?_; rintro e y2 ⟨rfl, hb2⟩; have b2 := B1.out.trans (hb2.mono B1.out.size); have S2 := Lib.hid (C.out y2 b2); have B2 := Lib.hid b2; clear hb2 b2))
            all_goals
              rename_i hH
              clear hH S1 S2 L0 C IS GT BQ B1
              go_wp2_with fail
              go_roundw
              case rel => exact ⟨j + 1, by omega, by go_num, B2.out⟩
              case measure => simp [intOf]; omega
          · have hJ : ¬ (j : Int) < M.length := by omega
            go_wp2_with fail
            go_ret3
            exact ⟨p, .slice Au M.length cu, rfl, t, by omega, v, L, M, HM.out, RE.out, TT.out.below BQ.out, RR.out.below BQ.out, BW.out.trans (BQ.out.mono (Nat.le_trans HB.out BW.out.size))⟩
      · clear hlt
        generalize wr = wo at *
        go_wp2_with fail
        go_loopw [10] (fun i wq => ∃ j : Nat, j ≤ M.length ∧ i = .int .i64 j ∧ Below wo.heap.size wo wq) (fun i _ => M.length - (intOf i).toNat)
        case atStart => exact ⟨0, Nat.zero_le _, rfl, Below.refl _ _⟩
        case round =>
          obtain ⟨j, hj, rfl, hbq⟩ := hrel
          have BQ := Lib.hid hbq
          clear hbq
          by_cases hjl : j < M.length
          · have hJ : (j : Int) < M.length := by omega
            obtain ⟨hcap, g, rfl, _, hgl, hg⟩ := row_cell (f := txCells) (fun _ => rfl) zX RR.out.rows rfl hjl
            obtain ⟨k, ln, bs, sz, op, fds, Af, cf, hP⟩ := RR.out.parts (j : Int)
            have hfr := RR.out.get (j : Int)
            rw [hP] at hfr
            have hxL : (getX L (j : Int)).1 = ⟨k, ln, bs, sz, op, fds⟩ := by rw [getX_fst, ← HM.out, ← getX_fst, hP]
            have hI2 := RE.out.inv.get (j : Int)
            rw [← getX_fst, hxL] at hI2
            rw [getX_in hjl] at hP
            rw [hP] at hg
            have hle : L.length ≤ 4096 := by have h := RE.out.inv.len; rw [List.length_map] at h; omega
            have hM96 : M.length ≤ 4096 := by have := HL.out; omega
            have GT := Lib.hid (fun W (hW : Below wo.heap.size wo W) => get_any p B v L (j : Int) W (TT.out.below hW) hle _ rfl (by rw [hxL]; have := hI2.2.2.1; simp only at this ⊢; omega) (by rw [hxL]; exact hI2.2.2.2.1))
            rw [hxL] at GT
            have HF := Lib.hid (show fds.length ≤ 1000 from by have := hI2.2.2.1; simp only at this; omega)
            have FR := Lib.hid hfr
            have C := Lib.hid (fun y (hy : Below wo.heap.size wo y) => show (fun y => y.cell? ⟨g, j * 6, none⟩ = some (.int .i64 k) ∧ y.cell? ⟨g, j * 6 + 1, none⟩ = some (.int .i64 ln) ∧ y.cell? ⟨g, j * 6 + 2, none⟩ = some (.int .i64 bs) ∧ y.cell? ⟨g, j * 6 + 3, none⟩ = some (.int .i64 sz) ∧ y.cell? ⟨g, j * 6 + 4, none⟩ = some (.bool op) ∧ y.cell? ⟨g, j * 6 + 5, none⟩ = some (.slice Af fds.length cf)) y from ⟨cell_later (hg 0 (by decide)).1 hy, cell_later (hg 1 (by decide)).1 hy, cell_later (hg 2 (by decide)).1 hy, cell_later (hg 3 (by decide)).1 hy, cell_later (hg 4 (by decide)).1 hy, cell_later (hg 5 (by decide)).1 hy⟩)
            have L0 := C.out wr.drew BQ.out.drew
            clear hg hfr hI2 hxL hP hle hgl
            go_wp2_with fail
            go_region_held3 (fun y => y.cell? ⟨g, j * 6, none⟩ = some (.int .i64 k) ∧ y.cell? ⟨g, j * 6 + 1, none⟩ = some (.int .i64 ln) ∧ y.cell? ⟨g, j * 6 + 2, none⟩ = some (.int .i64 bs) ∧ y.cell? ⟨g, j * 6 + 3, none⟩ = some (.int .i64 sz) ∧ y.cell? ⟨g, j * 6 + 4, none⟩ = some (.bool op) ∧ y.cell? ⟨g, j * 6 + 5, none⟩ = some (.slice Af fds.length cf))
              (first
                | with_reducible assumption
                | with_reducible exact L0
                | with_reducible exact S1.out
                | with_reducible exact S2.out
                | fail)
              (first
                | (go_at_call 11; refine (GT.out _ BQ.out.drew).mono ?_; rintro e y1 ⟨fv', rfl, hb1, ho1⟩; have b1 := BQ.out.drew.trans (hb1.mono BQ.out.size); have S1 := Lib.hid (C.out y1 b1); have B1 := Lib.hid b1; have IS := Lib.hid (is_any k ln bs sz op fds fv' (.slice Af fds.length cf) _ _ y1 ho1 (row_below FR.out b1) HF.out); clear hb1 ho1 b1)
                | (go_at_call 10; refine IS.out.mono ?_; rintro e y2 ⟨rfl, hb2⟩; have b2 := B1.out.trans (hb2.mono B1.out.size); have S2 := Lib.hid (C.out y2 b2); have B2 := Lib.hid b2; clear hb2 b2))
            all_goals
              rename_i hH
              clear hH S1 S2 L0 C IS GT BQ B1
              go_wp2_with fail
              go_roundw
              case rel => exact ⟨j + 1, by omega, by go_num, B2.out⟩
              case measure => simp [intOf]; omega
          · have hJ : ¬ (j : Int) < M.length := by omega
            go_wp2_with fail
            go_ret3
            exact ⟨p, .slice Au M.length cu, rfl, t, by omega, v, L, M, HM.out, RE.out, TT.out.below BQ.out, RR.out.below BQ.out, BW.out.trans (BQ.out.mono (Nat.le_trans HB.out BW.out.size))⟩
end Go.Proofs.Ytabkldahgjicbaa
