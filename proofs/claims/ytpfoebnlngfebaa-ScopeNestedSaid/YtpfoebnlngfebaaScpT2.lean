/- Scopes: what others may use, alike. -/
import Derived.Test.YtpfoebnlngfebaaScpT
import Derived.Deep.RegionHeld3
import Derived.BigRegion
namespace Go.Proofs.Ytpfoebnlngfebaa
open Go.ChangeShapes Go.WideShapes Go.ChangeAt Go.RowKit
set_option linter.unusedVariables false
set_option linter.unusedSimpArgs false

/-- An export of an own row, by its cells. -/
theorem RowE.at {w : World} {B B' : Nat} {A : Option Addr} {c : Nat} {l : List Exx} (h : RowE w B B' (.slice A l.length c) l) {t : Nat} (ht : t < l.length) :
    ∃ g, A = some ⟨g, 0, none⟩ ∧ g < w.heap.size ∧ ∃ Ap cp, (l.getD t zEx).2 = .slice Ap (l.getD t zEx).1.ps.length cp ∧ ParV B w (.slice Ap (l.getD t zEx).1.ps.length cp) (l.getD t zEx).1.ps ∧
      (∀ j u, [Value.string (l.getD t zEx).1.nm, .int .i64 (l.getD t zEx).1.kd, .int .i64 (l.getD t zEx).1.ty, .int .i32 (l.getD t zEx).1.vl, .slice Ap (l.getD t zEx).1.ps.length cp][j]? = some u → w.cell? ⟨g, t * 5 + j, none⟩ = some u) := by
  obtain ⟨hcap, g, rfl, hB, hg, hc⟩ := row_cell (f := exCells) (fun _ => rfl) zEx h.row rfl ht
  have hm : l.getD t zEx ∈ l := by
    rw [List.getD_eq_getElem?_getD, List.getElem?_eq_getElem ht]
    exact List.getElem_mem ht
  have hp := h.par _ hm
  generalize l.getD t zEx = x at *
  obtain ⟨x, pv⟩ := x
  obtain ⟨Ap, cp, hf⟩ := hp.form
  have hf : pv = .slice Ap x.ps.length cp := hf
  subst hf
  refine ⟨g, rfl, hg, Ap, cp, rfl, hp, fun j u hj => ?_⟩
  have hj5 : j < 5 := (List.getElem?_eq_some_iff.1 hj).1
  exact (hc j hj5).1.trans hj

set_option maxHeartbeats 32000000 in
set_option maxRecDepth 100000 in
theorem same_any (A1 A2 : Option Addr) (c1 c2 B B1 B2 : Nat) (l1 l2 : List Exx) (w : World) (h1 : RowE w B B1 (.slice A1 l1.length c1) l1) (h2 : RowE w B B2 (.slice A2 l2.length c2) l2) (hs : l1.map (·.1) = l2.map (·.1)) (hn : l1.length ≤ 1000000) (hok : ∀ x ∈ l1, x.1.ps.length * 16 ≤ 140737488355328) :
    Calls Try.prog 8 #[.slice A1 l1.length c1, .slice A2 l2.length c2] w fun e w' => e = .returned (.bool true) ∧ Below w.heap.size w w' := by
  have hll : l2.length = l1.length := by
    have h := congrArg List.length hs
    rw [List.length_map, List.length_map] at h
    exact h.symm
  have H1 := Lib.hid h1
  have H2 := Lib.hid h2
  have HS := Lib.hid hs
  have HO := Lib.hid hok
  have HLL := Lib.hid hll
  rw [hll]
  clear h1 h2 hs hok hll
  go_enter Try.func8, Try.ntmps8
  go_wp2_with fail
  go_loopw [5, 6, 7] (fun i _ _ wr => ∃ t : Nat, t ≤ l1.length ∧ i = .int .i64 t ∧ Below w.heap.size w wr) (fun i _ _ _ => l1.length - (intOf i).toNat)
  case atStart => exact ⟨0, Nat.zero_le _, rfl, Below.refl _ _⟩
  case round =>
    obtain ⟨t, ht, rfl, hb⟩ := hrel
    have BW := Lib.hid hb
    by_cases hlt : t < l1.length
    · have hI : (t : Int) < l1.length := by omega
      have hlt2 : t < l2.length := by rw [HLL.out]; exact hlt
      have hgd : (l2.getD t zEx).1 = (l1.getD t zEx).1 := by
        have e1 : (l1.map (·.1)).getD t zE = (l1.getD t zEx).1 := by simp [List.getD, hlt]
        have e2 : (l2.map (·.1)).getD t zE = (l2.getD t zEx).1 := by simp [List.getD, hlt2]
        rw [← e1, ← e2, HS.out]
      have hobk := HO.out _ (show l1.getD t zEx ∈ l1 by rw [List.getD_eq_getElem?_getD, List.getElem?_eq_getElem hlt]; exact List.getElem_mem hlt)
      obtain ⟨g, rfl, hg1, P1, d1, _, hp1, hx⟩ := (H1.out.below hb).at hlt
      obtain ⟨g', rfl, hg2, P2, d2, _, hp2, hy⟩ := (H2.out.below hb).at hlt2
      rw [hgd] at hp2 hy
      generalize (l1.getD t zEx).1 = ex at *
      obtain ⟨nm, kd, ty, vl, ps⟩ := ex
      have x0 : wr.cell? ⟨g, t * 5, none⟩ = some (.string nm) := hx 0 _ rfl
      have x1 : wr.cell? ⟨g, t * 5 + 1, none⟩ = some (.int .i64 kd) := hx 1 _ rfl
      have x2 : wr.cell? ⟨g, t * 5 + 2, none⟩ = some (.int .i64 ty) := hx 2 _ rfl
      have x3 : wr.cell? ⟨g, t * 5 + 3, none⟩ = some (.int .i32 vl) := hx 3 _ rfl
      have x4 : wr.cell? ⟨g, t * 5 + 4, none⟩ = some (.slice P1 ps.length d1) := hx 4 _ rfl
      have y0 : wr.cell? ⟨g', t * 5, none⟩ = some (.string nm) := hy 0 _ rfl
      have y1 : wr.cell? ⟨g', t * 5 + 1, none⟩ = some (.int .i64 kd) := hy 1 _ rfl
      have y2 : wr.cell? ⟨g', t * 5 + 2, none⟩ = some (.int .i64 ty) := hy 2 _ rfl
      have y3 : wr.cell? ⟨g', t * 5 + 3, none⟩ = some (.int .i32 vl) := hy 3 _ rfl
      have y4 : wr.cell? ⟨g', t * 5 + 4, none⟩ = some (.slice P2 ps.length d2) := hy 4 _ rfl
      have KP := Lib.hid (fun (y : World) (hy : Below wr.heap.size wr y) => show (fun y => y.cell? ⟨g, t * 5, none⟩ = some (.string nm) ∧ y.cell? ⟨g, t * 5 + 1, none⟩ = some (.int .i64 kd) ∧ y.cell? ⟨g, t * 5 + 2, none⟩ = some (.int .i64 ty) ∧ y.cell? ⟨g, t * 5 + 3, none⟩ = some (.int .i32 vl) ∧ y.cell? ⟨g, t * 5 + 4, none⟩ = some (.slice P1 ps.length d1) ∧ y.cell? ⟨g', t * 5, none⟩ = some (.string nm) ∧ y.cell? ⟨g', t * 5 + 1, none⟩ = some (.int .i64 kd) ∧ y.cell? ⟨g', t * 5 + 2, none⟩ = some (.int .i64 ty) ∧ y.cell? ⟨g', t * 5 + 3, none⟩ = some (.int .i32 vl) ∧ y.cell? ⟨g', t * 5 + 4, none⟩ = some (.slice P2 ps.length d2)) y from ⟨(hy.cell (p := ⟨g, t * 5, none⟩) hg1).trans x0, (hy.cell (p := ⟨g, t * 5 + 1, none⟩) hg1).trans x1, (hy.cell (p := ⟨g, t * 5 + 2, none⟩) hg1).trans x2, (hy.cell (p := ⟨g, t * 5 + 3, none⟩) hg1).trans x3, (hy.cell (p := ⟨g, t * 5 + 4, none⟩) hg1).trans x4, (hy.cell (p := ⟨g', t * 5, none⟩) hg2).trans y0, (hy.cell (p := ⟨g', t * 5 + 1, none⟩) hg2).trans y1, (hy.cell (p := ⟨g', t * 5 + 2, none⟩) hg2).trans y2, (hy.cell (p := ⟨g', t * 5 + 3, none⟩) hg2).trans y3, (hy.cell (p := ⟨g', t * 5 + 4, none⟩) hg2).trans y4⟩)
      have PP := Lib.hid (fun W (hW : Below wr.heap.size wr W) => params_any P1 P2 d1 d2 B B ps W (hp1.below hW) (hp2.below hW) hobk)
      have L0 := KP.out wr.drew (Below.refl _ _).drew
      have hq1 : (nm.toList == nm.toList) = true := by simp
      have hq2 : (nm.toList != nm.toList) = false := by simp
      clear hb hx hy hp1 hp2 hgd hobk
      go_wp2_with fail
      go_region_held3 (fun y => y.cell? ⟨g, t * 5, none⟩ = some (.string nm) ∧ y.cell? ⟨g, t * 5 + 1, none⟩ = some (.int .i64 kd) ∧ y.cell? ⟨g, t * 5 + 2, none⟩ = some (.int .i64 ty) ∧ y.cell? ⟨g, t * 5 + 3, none⟩ = some (.int .i32 vl) ∧ y.cell? ⟨g, t * 5 + 4, none⟩ = some (.slice P1 ps.length d1) ∧ y.cell? ⟨g', t * 5, none⟩ = some (.string nm) ∧ y.cell? ⟨g', t * 5 + 1, none⟩ = some (.int .i64 kd) ∧ y.cell? ⟨g', t * 5 + 2, none⟩ = some (.int .i64 ty) ∧ y.cell? ⟨g', t * 5 + 3, none⟩ = some (.int .i32 vl) ∧ y.cell? ⟨g', t * 5 + 4, none⟩ = some (.slice P2 ps.length d2))
        (first
          | with_reducible assumption
          | (refine KP.out _ ?_; repeat (first | exact Below.refl _ _ | refine Below.drew ?_ | (refine Below.alloc ?_ (by simp) _) | (refine Below.setCell ?_ (by simp) _))))
        (fail)
      all_goals
        rename_i hH
        clear hH KP L0 x0 x1 x2 x3 x4 y0 y1 y2 y3 y4
        have SP := Lib.hid (show (wr.alloc (.cells #[.string nm, .int .i64 kd, .int .i64 ty, .int .i32 vl, .slice P1 ps.length d1] pE)).heap.size = wr.heap.size + 1 by simp)
        have SR := Lib.hid (show (wr.alloc (.cells #[.string nm, .int .i64 kd, .int .i64 ty, .int .i32 vl, .slice P2 ps.length d2] pE)).heap.size = wr.heap.size + 1 by simp)
        have Ka := Lib.hid ((Whole.made wr pE #[.string nm, .int .i64 kd, .int .i64 ty, .int .i32 vl, .slice P1 ps.length d1] _ rfl).alloc (.cells #[.string nm, .int .i64 kd, .int .i64 ty, .int .i32 vl, .slice P2 ps.length d2] pE))
        have Kb := Lib.hid (Whole.made (wr.alloc (.cells #[.string nm, .int .i64 kd, .int .i64 ty, .int .i32 vl, .slice P1 ps.length d1] pE)) pE #[.string nm, .int .i64 kd, .int .i64 ty, .int .i32 vl, .slice P2 ps.length d2] (wr.heap.size + 1) SP.out.symm)
        have Kc := Lib.hid ((Whole.made wr pE #[.string nm, .int .i64 kd, .int .i64 ty, .int .i32 vl, .slice P2 ps.length d2] _ rfl).alloc (.cells #[.string nm, .int .i64 kd, .int .i64 ty, .int .i32 vl, .slice P1 ps.length d1] pE))
        have Kd := Lib.hid (Whole.made (wr.alloc (.cells #[.string nm, .int .i64 kd, .int .i64 ty, .int .i32 vl, .slice P2 ps.length d2] pE)) pE #[.string nm, .int .i64 kd, .int .i64 ty, .int .i32 vl, .slice P1 ps.length d1] (wr.heap.size + 1) SR.out.symm)
        have Bab := Lib.hid (show Below wr.heap.size wr ((wr.alloc (.cells #[.string nm, .int .i64 kd, .int .i64 ty, .int .i32 vl, .slice P1 ps.length d1] pE)).alloc (.cells #[.string nm, .int .i64 kd, .int .i64 ty, .int .i32 vl, .slice P2 ps.length d2] pE)).drew from (((Below.refl wr.heap.size wr).alloc (Nat.le_refl _) _).alloc (by simp) _).drew)
        have Bba := Lib.hid (show Below wr.heap.size wr ((wr.alloc (.cells #[.string nm, .int .i64 kd, .int .i64 ty, .int .i32 vl, .slice P2 ps.length d2] pE)).alloc (.cells #[.string nm, .int .i64 kd, .int .i64 ty, .int .i32 vl, .slice P1 ps.length d1] pE)).drew from (((Below.refl wr.heap.size wr).alloc (Nat.le_refl _) _).alloc (by simp) _).drew)
        have e0 : ((wr.alloc (.cells #[.string nm, .int .i64 kd, .int .i64 ty, .int .i32 vl, .slice P1 ps.length d1] pE)).alloc (.cells #[.string nm, .int .i64 kd, .int .i64 ty, .int .i32 vl, .slice P2 ps.length d2] pE)).cell? ⟨wr.heap.size, 0, none⟩ = some (.string nm) := Ka.out.cell 0
        have e1 : ((wr.alloc (.cells #[.string nm, .int .i64 kd, .int .i64 ty, .int .i32 vl, .slice P1 ps.length d1] pE)).alloc (.cells #[.string nm, .int .i64 kd, .int .i64 ty, .int .i32 vl, .slice P2 ps.length d2] pE)).cell? ⟨wr.heap.size, 1, none⟩ = some (.int .i64 kd) := Ka.out.cell 1
        have e2 : ((wr.alloc (.cells #[.string nm, .int .i64 kd, .int .i64 ty, .int .i32 vl, .slice P1 ps.length d1] pE)).alloc (.cells #[.string nm, .int .i64 kd, .int .i64 ty, .int .i32 vl, .slice P2 ps.length d2] pE)).cell? ⟨wr.heap.size, 2, none⟩ = some (.int .i64 ty) := Ka.out.cell 2
        have e3 : ((wr.alloc (.cells #[.string nm, .int .i64 kd, .int .i64 ty, .int .i32 vl, .slice P1 ps.length d1] pE)).alloc (.cells #[.string nm, .int .i64 kd, .int .i64 ty, .int .i32 vl, .slice P2 ps.length d2] pE)).cell? ⟨wr.heap.size, 3, none⟩ = some (.int .i32 vl) := Ka.out.cell 3
        have e4 : ((wr.alloc (.cells #[.string nm, .int .i64 kd, .int .i64 ty, .int .i32 vl, .slice P1 ps.length d1] pE)).alloc (.cells #[.string nm, .int .i64 kd, .int .i64 ty, .int .i32 vl, .slice P2 ps.length d2] pE)).cell? ⟨wr.heap.size, 4, none⟩ = some (.slice P1 ps.length d1) := Ka.out.cell 4
        have f0 : ((wr.alloc (.cells #[.string nm, .int .i64 kd, .int .i64 ty, .int .i32 vl, .slice P1 ps.length d1] pE)).alloc (.cells #[.string nm, .int .i64 kd, .int .i64 ty, .int .i32 vl, .slice P2 ps.length d2] pE)).cell? ⟨wr.heap.size + 1, 0, none⟩ = some (.string nm) := Kb.out.cell 0
        have f1 : ((wr.alloc (.cells #[.string nm, .int .i64 kd, .int .i64 ty, .int .i32 vl, .slice P1 ps.length d1] pE)).alloc (.cells #[.string nm, .int .i64 kd, .int .i64 ty, .int .i32 vl, .slice P2 ps.length d2] pE)).cell? ⟨wr.heap.size + 1, 1, none⟩ = some (.int .i64 kd) := Kb.out.cell 1
        have f2 : ((wr.alloc (.cells #[.string nm, .int .i64 kd, .int .i64 ty, .int .i32 vl, .slice P1 ps.length d1] pE)).alloc (.cells #[.string nm, .int .i64 kd, .int .i64 ty, .int .i32 vl, .slice P2 ps.length d2] pE)).cell? ⟨wr.heap.size + 1, 2, none⟩ = some (.int .i64 ty) := Kb.out.cell 2
        have f3 : ((wr.alloc (.cells #[.string nm, .int .i64 kd, .int .i64 ty, .int .i32 vl, .slice P1 ps.length d1] pE)).alloc (.cells #[.string nm, .int .i64 kd, .int .i64 ty, .int .i32 vl, .slice P2 ps.length d2] pE)).cell? ⟨wr.heap.size + 1, 3, none⟩ = some (.int .i32 vl) := Kb.out.cell 3
        have f4 : ((wr.alloc (.cells #[.string nm, .int .i64 kd, .int .i64 ty, .int .i32 vl, .slice P1 ps.length d1] pE)).alloc (.cells #[.string nm, .int .i64 kd, .int .i64 ty, .int .i32 vl, .slice P2 ps.length d2] pE)).cell? ⟨wr.heap.size + 1, 4, none⟩ = some (.slice P2 ps.length d2) := Kb.out.cell 4
        have m0 : ((wr.alloc (.cells #[.string nm, .int .i64 kd, .int .i64 ty, .int .i32 vl, .slice P2 ps.length d2] pE)).alloc (.cells #[.string nm, .int .i64 kd, .int .i64 ty, .int .i32 vl, .slice P1 ps.length d1] pE)).cell? ⟨wr.heap.size, 0, none⟩ = some (.string nm) := Kc.out.cell 0
        have m1 : ((wr.alloc (.cells #[.string nm, .int .i64 kd, .int .i64 ty, .int .i32 vl, .slice P2 ps.length d2] pE)).alloc (.cells #[.string nm, .int .i64 kd, .int .i64 ty, .int .i32 vl, .slice P1 ps.length d1] pE)).cell? ⟨wr.heap.size, 1, none⟩ = some (.int .i64 kd) := Kc.out.cell 1
        have m2 : ((wr.alloc (.cells #[.string nm, .int .i64 kd, .int .i64 ty, .int .i32 vl, .slice P2 ps.length d2] pE)).alloc (.cells #[.string nm, .int .i64 kd, .int .i64 ty, .int .i32 vl, .slice P1 ps.length d1] pE)).cell? ⟨wr.heap.size, 2, none⟩ = some (.int .i64 ty) := Kc.out.cell 2
        have m3 : ((wr.alloc (.cells #[.string nm, .int .i64 kd, .int .i64 ty, .int .i32 vl, .slice P2 ps.length d2] pE)).alloc (.cells #[.string nm, .int .i64 kd, .int .i64 ty, .int .i32 vl, .slice P1 ps.length d1] pE)).cell? ⟨wr.heap.size, 3, none⟩ = some (.int .i32 vl) := Kc.out.cell 3
        have m4 : ((wr.alloc (.cells #[.string nm, .int .i64 kd, .int .i64 ty, .int .i32 vl, .slice P2 ps.length d2] pE)).alloc (.cells #[.string nm, .int .i64 kd, .int .i64 ty, .int .i32 vl, .slice P1 ps.length d1] pE)).cell? ⟨wr.heap.size, 4, none⟩ = some (.slice P2 ps.length d2) := Kc.out.cell 4
        have n0 : ((wr.alloc (.cells #[.string nm, .int .i64 kd, .int .i64 ty, .int .i32 vl, .slice P2 ps.length d2] pE)).alloc (.cells #[.string nm, .int .i64 kd, .int .i64 ty, .int .i32 vl, .slice P1 ps.length d1] pE)).cell? ⟨wr.heap.size + 1, 0, none⟩ = some (.string nm) := Kd.out.cell 0
        have n1 : ((wr.alloc (.cells #[.string nm, .int .i64 kd, .int .i64 ty, .int .i32 vl, .slice P2 ps.length d2] pE)).alloc (.cells #[.string nm, .int .i64 kd, .int .i64 ty, .int .i32 vl, .slice P1 ps.length d1] pE)).cell? ⟨wr.heap.size + 1, 1, none⟩ = some (.int .i64 kd) := Kd.out.cell 1
        have n2 : ((wr.alloc (.cells #[.string nm, .int .i64 kd, .int .i64 ty, .int .i32 vl, .slice P2 ps.length d2] pE)).alloc (.cells #[.string nm, .int .i64 kd, .int .i64 ty, .int .i32 vl, .slice P1 ps.length d1] pE)).cell? ⟨wr.heap.size + 1, 2, none⟩ = some (.int .i64 ty) := Kd.out.cell 2
        have n3 : ((wr.alloc (.cells #[.string nm, .int .i64 kd, .int .i64 ty, .int .i32 vl, .slice P2 ps.length d2] pE)).alloc (.cells #[.string nm, .int .i64 kd, .int .i64 ty, .int .i32 vl, .slice P1 ps.length d1] pE)).cell? ⟨wr.heap.size + 1, 3, none⟩ = some (.int .i32 vl) := Kd.out.cell 3
        have n4 : ((wr.alloc (.cells #[.string nm, .int .i64 kd, .int .i64 ty, .int .i32 vl, .slice P2 ps.length d2] pE)).alloc (.cells #[.string nm, .int .i64 kd, .int .i64 ty, .int .i32 vl, .slice P1 ps.length d1] pE)).cell? ⟨wr.heap.size + 1, 4, none⟩ = some (.slice P1 ps.length d1) := Kd.out.cell 4
        clear SP SR Ka Kb Kc Kd
        go_wp2_with fail
        refine (PP.out _ (by first | exact Bab.out | exact Bba.out)).mono ?_
        rintro e w3 ⟨rfl, hb3⟩
        have B3 := Lib.hid (show Below wr.heap.size wr w3 from by first | exact Bab.out.trans (hb3.mono Bab.out.size) | exact Bba.out.trans (hb3.mono Bba.out.size))
        clear hb3 PP Bab Bba e0 e1 e2 e3 e4 f0 f1 f2 f3 f4 m0 m1 m2 m3 m4 n0 n1 n2 n3 n4
        go_wp2_with fail
        go_roundw
        case rel => exact ⟨t + 1, by omega, by go_num, BW.out.trans (B3.out.mono BW.out.size)⟩
        case measure => simp [intOf]; omega
    · have hI : ¬ (t : Int) < l1.length := by omega
      go_wp2_with fail
      go_ret
      exact ⟨rfl, BW.out⟩
end Go.Proofs.Ytpfoebnlngfebaa
