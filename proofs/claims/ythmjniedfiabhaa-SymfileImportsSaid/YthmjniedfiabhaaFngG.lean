/- Finger: which exports are alike: the answers' Same. -/
import Derived.Test.YthmjniedfiabhaaFngF
namespace Go.Proofs.Ythmjniedfiabhaa
open Go.ChangeShapes Go.WideShapes Go.ChangeAt Go.RowKit
set_option linter.unusedVariables false
set_option linter.unusedSimpArgs false

set_option maxHeartbeats 64000000 in
set_option maxRecDepth 100000 in
theorem exsame_any (A1 A2 : Option Addr) (c1 c2 B1 B2 : Nat) (l1 l2 : List Exx) (w : World) (h1 : ExpR B1 w (.slice A1 l1.length c1) l1) (h2 : ExpR B2 w (.slice A2 l2.length c2) l2) (hn : l1.length * 64 ≤ 140737488355328) (hn2 : l2.length * 64 ≤ 140737488355328) (ho1 : ∀ x ∈ l1, x.1.ps.length * 16 ≤ 140737488355328) (ho2 : ∀ x ∈ l2, x.1.ps.length * 16 ≤ 140737488355328) :
    Calls Try.prog 52 #[.slice A1 l1.length c1, .slice A2 l2.length c2] w fun e w' => e = .returned (.bool (alike (l1.map (·.1)) (l2.map (·.1)))) ∧ Below w.heap.size w w' := by
  have H1 := Lib.hid h1
  have H2 := Lib.hid h2
  have O1 := Lib.hid ho1
  have O2 := Lib.hid ho2
  have AY := Lib.hid (show l1.map (·.1) = l2.map (·.1) → alike (l1.map (·.1)) (l2.map (·.1)) = true from fun h => alike_yes h)
  have AN := Lib.hid (show l1.map (·.1) ≠ l2.map (·.1) → alike (l1.map (·.1)) (l2.map (·.1)) = false from fun h => alike_no h)
  generalize alike (l1.map (·.1)) (l2.map (·.1)) = R at *
  clear h1 h2 ho1 ho2
  by_cases hl : l1.length = l2.length
  · have HL := Lib.hid hl
    have hnn : ((l1.length : Int) != (l1.length : Int)) = false := by simp
    rw [← hl] at H2 ⊢
    clear hn2 hl
    go_enter Try.func52, Try.ntmps52
    go_wp2_with fail
    go_loopw [5, 6, 7] (fun i _ _ wr => ∃ t : Nat, t ≤ l1.length ∧ i = .int .i64 t ∧ (l1.take t).map (·.1) = (l2.take t).map (·.1) ∧ Below w.heap.size w wr) (fun i _ _ _ => l1.length - (intOf i).toNat)
    case atStart => exact ⟨0, Nat.zero_le _, rfl, rfl, Below.refl _ _⟩
    case round =>
      obtain ⟨t, ht, rfl, hp, hb⟩ := hrel
      have BW := Lib.hid hb
      have HP := Lib.hid hp
      clear hp
      by_cases hlt : t < l1.length
      · have hI : (t : Int) < l1.length := by omega
        have hlt2 : t < l2.length := by rw [← HL.out]; exact hlt
        have TS := Lib.hid (fun he => map_take_same hlt hlt2 HP.out he)
        have TN := Lib.hid (fun he => AN.out (map_dif hlt hlt2 he))
        have ok1 := O1.out _ (getD_mem zEx hlt)
        have ok2 := O2.out _ (getD_mem zEx hlt2)
        have K1 := H1.out.below hb
        have K2 := H2.out.below hb
        rw [HL.out] at K2
        obtain ⟨b1, o1, rfl, hl1, nm, kd, ty, vl, ps, P1, d1, hX, hp1, hx⟩ := K1.at hlt
        obtain ⟨b2, o2, rfl, hl2, nm', kd', ty', vl', ps', P2, d2, hY, hp2, hy⟩ := K2.at hlt2
        rw [hX] at TS TN ok1
        rw [hY] at TS TN ok2
        have x0 : wr.cell? ⟨b1, o1 + t * 5, none⟩ = some (.string nm) := hx 0 _ rfl
        have x1 : wr.cell? ⟨b1, o1 + t * 5 + 1, none⟩ = some (.int .i64 kd) := hx 1 _ rfl
        have x2 : wr.cell? ⟨b1, o1 + t * 5 + 2, none⟩ = some (.int .i64 ty) := hx 2 _ rfl
        have x3 : wr.cell? ⟨b1, o1 + t * 5 + 3, none⟩ = some (.int .i32 vl) := hx 3 _ rfl
        have x4 : wr.cell? ⟨b1, o1 + t * 5 + 4, none⟩ = some (.slice P1 ps.length d1) := hx 4 _ rfl
        have y0 : wr.cell? ⟨b2, o2 + t * 5, none⟩ = some (.string nm') := hy 0 _ rfl
        have y1 : wr.cell? ⟨b2, o2 + t * 5 + 1, none⟩ = some (.int .i64 kd') := hy 1 _ rfl
        have y2 : wr.cell? ⟨b2, o2 + t * 5 + 2, none⟩ = some (.int .i64 ty') := hy 2 _ rfl
        have y3 : wr.cell? ⟨b2, o2 + t * 5 + 3, none⟩ = some (.int .i32 vl') := hy 3 _ rfl
        have y4 : wr.cell? ⟨b2, o2 + t * 5 + 4, none⟩ = some (.slice P2 ps'.length d2) := hy 4 _ rfl
        have KP := Lib.hid (fun (y : World) (hy : Below wr.heap.size wr y) => show (fun y => y.cell? ⟨b1, o1 + t * 5, none⟩ = some (.string nm) ∧ y.cell? ⟨b1, o1 + t * 5 + 1, none⟩ = some (.int .i64 kd) ∧ y.cell? ⟨b1, o1 + t * 5 + 2, none⟩ = some (.int .i64 ty) ∧ y.cell? ⟨b1, o1 + t * 5 + 3, none⟩ = some (.int .i32 vl) ∧ y.cell? ⟨b1, o1 + t * 5 + 4, none⟩ = some (.slice P1 ps.length d1) ∧ y.cell? ⟨b2, o2 + t * 5, none⟩ = some (.string nm') ∧ y.cell? ⟨b2, o2 + t * 5 + 1, none⟩ = some (.int .i64 kd') ∧ y.cell? ⟨b2, o2 + t * 5 + 2, none⟩ = some (.int .i64 ty') ∧ y.cell? ⟨b2, o2 + t * 5 + 3, none⟩ = some (.int .i32 vl') ∧ y.cell? ⟨b2, o2 + t * 5 + 4, none⟩ = some (.slice P2 ps'.length d2)) y from ⟨(hy.cell (p := ⟨b1, o1 + t * 5, none⟩) hl1).trans x0, (hy.cell (p := ⟨b1, o1 + t * 5 + 1, none⟩) hl1).trans x1, (hy.cell (p := ⟨b1, o1 + t * 5 + 2, none⟩) hl1).trans x2, (hy.cell (p := ⟨b1, o1 + t * 5 + 3, none⟩) hl1).trans x3, (hy.cell (p := ⟨b1, o1 + t * 5 + 4, none⟩) hl1).trans x4, (hy.cell (p := ⟨b2, o2 + t * 5, none⟩) hl2).trans y0, (hy.cell (p := ⟨b2, o2 + t * 5 + 1, none⟩) hl2).trans y1, (hy.cell (p := ⟨b2, o2 + t * 5 + 2, none⟩) hl2).trans y2, (hy.cell (p := ⟨b2, o2 + t * 5 + 3, none⟩) hl2).trans y3, (hy.cell (p := ⟨b2, o2 + t * 5 + 4, none⟩) hl2).trans y4⟩)
        have PP := Lib.hid (fun W (hW : Below wr.heap.size wr W) => refparams_any P1 P2 d1 d2 B1 B2 ps ps' W (hp1.below hW) (hp2.below hW) ok1 ok2)
        have L0 := KP.out wr.drew (Below.refl _ _).drew
        clear hb hx hy hp1 hp2 hX hY ok1 ok2 K1 K2
        go_wp2_with fail
        go_region_held3 (fun y => y.cell? ⟨b1, o1 + t * 5, none⟩ = some (.string nm) ∧ y.cell? ⟨b1, o1 + t * 5 + 1, none⟩ = some (.int .i64 kd) ∧ y.cell? ⟨b1, o1 + t * 5 + 2, none⟩ = some (.int .i64 ty) ∧ y.cell? ⟨b1, o1 + t * 5 + 3, none⟩ = some (.int .i32 vl) ∧ y.cell? ⟨b1, o1 + t * 5 + 4, none⟩ = some (.slice P1 ps.length d1) ∧ y.cell? ⟨b2, o2 + t * 5, none⟩ = some (.string nm') ∧ y.cell? ⟨b2, o2 + t * 5 + 1, none⟩ = some (.int .i64 kd') ∧ y.cell? ⟨b2, o2 + t * 5 + 2, none⟩ = some (.int .i64 ty') ∧ y.cell? ⟨b2, o2 + t * 5 + 3, none⟩ = some (.int .i32 vl') ∧ y.cell? ⟨b2, o2 + t * 5 + 4, none⟩ = some (.slice P2 ps'.length d2))
          (first
            | with_reducible assumption
            | (refine KP.out _ ?_; repeat (first | exact Below.refl _ _ | refine Below.drew ?_ | (refine Below.alloc ?_ (by simp) _) | (refine Below.setCell ?_ (by simp) _))))
          (fail)
        all_goals
          rename_i hH
          clear hH KP L0 x0 x1 x2 x3 x4 y0 y1 y2 y3 y4
          have SP := Lib.hid (show (wr.alloc (.cells #[.string nm, .int .i64 kd, .int .i64 ty, .int .i32 vl, .slice P1 ps.length d1] pE)).heap.size = wr.heap.size + 1 by simp)
          have SR := Lib.hid (show (wr.alloc (.cells #[.string nm', .int .i64 kd', .int .i64 ty', .int .i32 vl', .slice P2 ps'.length d2] pE)).heap.size = wr.heap.size + 1 by simp)
          have Ka := Lib.hid ((Whole.made wr pE #[.string nm, .int .i64 kd, .int .i64 ty, .int .i32 vl, .slice P1 ps.length d1] _ rfl).alloc (.cells #[.string nm', .int .i64 kd', .int .i64 ty', .int .i32 vl', .slice P2 ps'.length d2] pE))
          have Kb := Lib.hid (Whole.made (wr.alloc (.cells #[.string nm, .int .i64 kd, .int .i64 ty, .int .i32 vl, .slice P1 ps.length d1] pE)) pE #[.string nm', .int .i64 kd', .int .i64 ty', .int .i32 vl', .slice P2 ps'.length d2] (wr.heap.size + 1) SP.out.symm)
          have Kc := Lib.hid ((Whole.made wr pE #[.string nm', .int .i64 kd', .int .i64 ty', .int .i32 vl', .slice P2 ps'.length d2] _ rfl).alloc (.cells #[.string nm, .int .i64 kd, .int .i64 ty, .int .i32 vl, .slice P1 ps.length d1] pE))
          have Kd := Lib.hid (Whole.made (wr.alloc (.cells #[.string nm', .int .i64 kd', .int .i64 ty', .int .i32 vl', .slice P2 ps'.length d2] pE)) pE #[.string nm, .int .i64 kd, .int .i64 ty, .int .i32 vl, .slice P1 ps.length d1] (wr.heap.size + 1) SR.out.symm)
          have Bab := Lib.hid (show Below wr.heap.size wr ((wr.alloc (.cells #[.string nm, .int .i64 kd, .int .i64 ty, .int .i32 vl, .slice P1 ps.length d1] pE)).alloc (.cells #[.string nm', .int .i64 kd', .int .i64 ty', .int .i32 vl', .slice P2 ps'.length d2] pE)).drew from (((Below.refl wr.heap.size wr).alloc (Nat.le_refl _) _).alloc (by simp) _).drew)
          have Bba := Lib.hid (show Below wr.heap.size wr ((wr.alloc (.cells #[.string nm', .int .i64 kd', .int .i64 ty', .int .i32 vl', .slice P2 ps'.length d2] pE)).alloc (.cells #[.string nm, .int .i64 kd, .int .i64 ty, .int .i32 vl, .slice P1 ps.length d1] pE)).drew from (((Below.refl wr.heap.size wr).alloc (Nat.le_refl _) _).alloc (by simp) _).drew)
          have e0 : ((wr.alloc (.cells #[.string nm, .int .i64 kd, .int .i64 ty, .int .i32 vl, .slice P1 ps.length d1] pE)).alloc (.cells #[.string nm', .int .i64 kd', .int .i64 ty', .int .i32 vl', .slice P2 ps'.length d2] pE)).cell? ⟨wr.heap.size, 0, none⟩ = some (.string nm) := Ka.out.cell 0
          have e1 : ((wr.alloc (.cells #[.string nm, .int .i64 kd, .int .i64 ty, .int .i32 vl, .slice P1 ps.length d1] pE)).alloc (.cells #[.string nm', .int .i64 kd', .int .i64 ty', .int .i32 vl', .slice P2 ps'.length d2] pE)).cell? ⟨wr.heap.size, 1, none⟩ = some (.int .i64 kd) := Ka.out.cell 1
          have e2 : ((wr.alloc (.cells #[.string nm, .int .i64 kd, .int .i64 ty, .int .i32 vl, .slice P1 ps.length d1] pE)).alloc (.cells #[.string nm', .int .i64 kd', .int .i64 ty', .int .i32 vl', .slice P2 ps'.length d2] pE)).cell? ⟨wr.heap.size, 2, none⟩ = some (.int .i64 ty) := Ka.out.cell 2
          have e3 : ((wr.alloc (.cells #[.string nm, .int .i64 kd, .int .i64 ty, .int .i32 vl, .slice P1 ps.length d1] pE)).alloc (.cells #[.string nm', .int .i64 kd', .int .i64 ty', .int .i32 vl', .slice P2 ps'.length d2] pE)).cell? ⟨wr.heap.size, 3, none⟩ = some (.int .i32 vl) := Ka.out.cell 3
          have e4 : ((wr.alloc (.cells #[.string nm, .int .i64 kd, .int .i64 ty, .int .i32 vl, .slice P1 ps.length d1] pE)).alloc (.cells #[.string nm', .int .i64 kd', .int .i64 ty', .int .i32 vl', .slice P2 ps'.length d2] pE)).cell? ⟨wr.heap.size, 4, none⟩ = some (.slice P1 ps.length d1) := Ka.out.cell 4
          have f0 : ((wr.alloc (.cells #[.string nm, .int .i64 kd, .int .i64 ty, .int .i32 vl, .slice P1 ps.length d1] pE)).alloc (.cells #[.string nm', .int .i64 kd', .int .i64 ty', .int .i32 vl', .slice P2 ps'.length d2] pE)).cell? ⟨wr.heap.size + 1, 0, none⟩ = some (.string nm') := Kb.out.cell 0
          have f1 : ((wr.alloc (.cells #[.string nm, .int .i64 kd, .int .i64 ty, .int .i32 vl, .slice P1 ps.length d1] pE)).alloc (.cells #[.string nm', .int .i64 kd', .int .i64 ty', .int .i32 vl', .slice P2 ps'.length d2] pE)).cell? ⟨wr.heap.size + 1, 1, none⟩ = some (.int .i64 kd') := Kb.out.cell 1
          have f2 : ((wr.alloc (.cells #[.string nm, .int .i64 kd, .int .i64 ty, .int .i32 vl, .slice P1 ps.length d1] pE)).alloc (.cells #[.string nm', .int .i64 kd', .int .i64 ty', .int .i32 vl', .slice P2 ps'.length d2] pE)).cell? ⟨wr.heap.size + 1, 2, none⟩ = some (.int .i64 ty') := Kb.out.cell 2
          have f3 : ((wr.alloc (.cells #[.string nm, .int .i64 kd, .int .i64 ty, .int .i32 vl, .slice P1 ps.length d1] pE)).alloc (.cells #[.string nm', .int .i64 kd', .int .i64 ty', .int .i32 vl', .slice P2 ps'.length d2] pE)).cell? ⟨wr.heap.size + 1, 3, none⟩ = some (.int .i32 vl') := Kb.out.cell 3
          have f4 : ((wr.alloc (.cells #[.string nm, .int .i64 kd, .int .i64 ty, .int .i32 vl, .slice P1 ps.length d1] pE)).alloc (.cells #[.string nm', .int .i64 kd', .int .i64 ty', .int .i32 vl', .slice P2 ps'.length d2] pE)).cell? ⟨wr.heap.size + 1, 4, none⟩ = some (.slice P2 ps'.length d2) := Kb.out.cell 4
          have m0 : ((wr.alloc (.cells #[.string nm', .int .i64 kd', .int .i64 ty', .int .i32 vl', .slice P2 ps'.length d2] pE)).alloc (.cells #[.string nm, .int .i64 kd, .int .i64 ty, .int .i32 vl, .slice P1 ps.length d1] pE)).cell? ⟨wr.heap.size, 0, none⟩ = some (.string nm') := Kc.out.cell 0
          have m1 : ((wr.alloc (.cells #[.string nm', .int .i64 kd', .int .i64 ty', .int .i32 vl', .slice P2 ps'.length d2] pE)).alloc (.cells #[.string nm, .int .i64 kd, .int .i64 ty, .int .i32 vl, .slice P1 ps.length d1] pE)).cell? ⟨wr.heap.size, 1, none⟩ = some (.int .i64 kd') := Kc.out.cell 1
          have m2 : ((wr.alloc (.cells #[.string nm', .int .i64 kd', .int .i64 ty', .int .i32 vl', .slice P2 ps'.length d2] pE)).alloc (.cells #[.string nm, .int .i64 kd, .int .i64 ty, .int .i32 vl, .slice P1 ps.length d1] pE)).cell? ⟨wr.heap.size, 2, none⟩ = some (.int .i64 ty') := Kc.out.cell 2
          have m3 : ((wr.alloc (.cells #[.string nm', .int .i64 kd', .int .i64 ty', .int .i32 vl', .slice P2 ps'.length d2] pE)).alloc (.cells #[.string nm, .int .i64 kd, .int .i64 ty, .int .i32 vl, .slice P1 ps.length d1] pE)).cell? ⟨wr.heap.size, 3, none⟩ = some (.int .i32 vl') := Kc.out.cell 3
          have m4 : ((wr.alloc (.cells #[.string nm', .int .i64 kd', .int .i64 ty', .int .i32 vl', .slice P2 ps'.length d2] pE)).alloc (.cells #[.string nm, .int .i64 kd, .int .i64 ty, .int .i32 vl, .slice P1 ps.length d1] pE)).cell? ⟨wr.heap.size, 4, none⟩ = some (.slice P2 ps'.length d2) := Kc.out.cell 4
          have n0 : ((wr.alloc (.cells #[.string nm', .int .i64 kd', .int .i64 ty', .int .i32 vl', .slice P2 ps'.length d2] pE)).alloc (.cells #[.string nm, .int .i64 kd, .int .i64 ty, .int .i32 vl, .slice P1 ps.length d1] pE)).cell? ⟨wr.heap.size + 1, 0, none⟩ = some (.string nm) := Kd.out.cell 0
          have n1 : ((wr.alloc (.cells #[.string nm', .int .i64 kd', .int .i64 ty', .int .i32 vl', .slice P2 ps'.length d2] pE)).alloc (.cells #[.string nm, .int .i64 kd, .int .i64 ty, .int .i32 vl, .slice P1 ps.length d1] pE)).cell? ⟨wr.heap.size + 1, 1, none⟩ = some (.int .i64 kd) := Kd.out.cell 1
          have n2 : ((wr.alloc (.cells #[.string nm', .int .i64 kd', .int .i64 ty', .int .i32 vl', .slice P2 ps'.length d2] pE)).alloc (.cells #[.string nm, .int .i64 kd, .int .i64 ty, .int .i32 vl, .slice P1 ps.length d1] pE)).cell? ⟨wr.heap.size + 1, 2, none⟩ = some (.int .i64 ty) := Kd.out.cell 2
          have n3 : ((wr.alloc (.cells #[.string nm', .int .i64 kd', .int .i64 ty', .int .i32 vl', .slice P2 ps'.length d2] pE)).alloc (.cells #[.string nm, .int .i64 kd, .int .i64 ty, .int .i32 vl, .slice P1 ps.length d1] pE)).cell? ⟨wr.heap.size + 1, 3, none⟩ = some (.int .i32 vl) := Kd.out.cell 3
          have n4 : ((wr.alloc (.cells #[.string nm', .int .i64 kd', .int .i64 ty', .int .i32 vl', .slice P2 ps'.length d2] pE)).alloc (.cells #[.string nm, .int .i64 kd, .int .i64 ty, .int .i32 vl, .slice P1 ps.length d1] pE)).cell? ⟨wr.heap.size + 1, 4, none⟩ = some (.slice P1 ps.length d1) := Kd.out.cell 4
          clear SP SR Ka Kb Kc Kd
          obtain ⟨Z, hZ⟩ : ∃ Z : Prop, Z = True := ⟨_, rfl⟩
          by_cases hxy : (⟨nm, kd, ty, vl, ps⟩ : Ex) = ⟨nm', kd', ty', vl', ps'⟩
          · have T1 := Lib.hid (TS.out hxy)
            injection hxy with g0 g1 g2 g3 g4
            subst g0 g1 g2 g3 g4
            have hq1 : (nm.toList == nm.toList) = true := by simp
            have hq2 : (nm.toList != nm.toList) = false := by simp
            clear TS TN
            go_wp2_with fail
            refine (PP.out _ (by first | exact Bab.out | exact Bba.out)).mono ?_
            rintro e w3 ⟨rfl, hb3⟩
            have B3 := Lib.hid (show Below wr.heap.size wr w3 from by first | exact Bab.out.trans (hb3.mono Bab.out.size) | exact Bba.out.trans (hb3.mono Bba.out.size))
            have hd : decide (ps = ps) = true := decide_eq_true rfl
            clear hb3 PP Bab Bba e0 e1 e2 e3 e4 f0 f1 f2 f3 f4 m0 m1 m2 m3 m4 n0 n1 n2 n3 n4
            go_wp2_with fail
            go_roundw
            case rel => exact ⟨t + 1, by omega, by go_num, T1.out, BW.out.trans (B3.out.mono BW.out.size)⟩
            case measure => simp [intOf]; omega
          · have F1 := Lib.hid (TN.out hxy)
            obtain D := difX hxy
            clear TS TN
            have NXY := Lib.hid hxy
            clear hxy
            rcases D with h | ⟨h0, h⟩ | ⟨h0, h1, h⟩ | ⟨h0, h1, h2, h⟩ | ⟨h0, h1, h2, h3, h⟩
            · skip
              have he0 : (nm.toList == nm'.toList) = false := nm_ne (show nm ≠ nm' from h)
              have hq0 : (nm.toList != nm'.toList) = true := by simp only [bne, he0, Bool.not_false]
              have HH := Lib.hid h
              clear h
              go_wp2_with fail
              go_ret
              rw [F1.out]
              exact ⟨rfl, by first | exact BW.out.trans (Bab.out.mono BW.out.size) | exact BW.out.trans (Bba.out.mono BW.out.size)⟩
            · skip
              have hq0 : (nm.toList != nm'.toList) = false := by rw [show nm = nm' from h0]; simp
              have he0 : (nm.toList == nm'.toList) = true := by rw [show nm = nm' from h0]; simp
              have he1 : (kd == kd') = false := by simp [show kd ≠ kd' from h]
              have hq1 : (kd != kd') = true := by simp [show kd ≠ kd' from h]
              have HH := Lib.hid h
              clear h h0
              go_wp2_with fail
              go_ret
              rw [F1.out]
              exact ⟨rfl, by first | exact BW.out.trans (Bab.out.mono BW.out.size) | exact BW.out.trans (Bba.out.mono BW.out.size)⟩
            · skip
              have hq0 : (nm.toList != nm'.toList) = false := by rw [show nm = nm' from h0]; simp
              have he0 : (nm.toList == nm'.toList) = true := by rw [show nm = nm' from h0]; simp
              have hq1 : (kd != kd') = false := by rw [show kd = kd' from h1]; simp
              have he1 : (kd == kd') = true := by rw [show kd = kd' from h1]; simp
              have he2 : (ty == ty') = false := by simp [show ty ≠ ty' from h]
              have hq2 : (ty != ty') = true := by simp [show ty ≠ ty' from h]
              have HH := Lib.hid h
              clear h h0 h1
              go_wp2_with fail
              go_ret
              rw [F1.out]
              exact ⟨rfl, by first | exact BW.out.trans (Bab.out.mono BW.out.size) | exact BW.out.trans (Bba.out.mono BW.out.size)⟩
            · skip
              have hq0 : (nm.toList != nm'.toList) = false := by rw [show nm = nm' from h0]; simp
              have he0 : (nm.toList == nm'.toList) = true := by rw [show nm = nm' from h0]; simp
              have hq1 : (kd != kd') = false := by rw [show kd = kd' from h1]; simp
              have he1 : (kd == kd') = true := by rw [show kd = kd' from h1]; simp
              have hq2 : (ty != ty') = false := by rw [show ty = ty' from h2]; simp
              have he2 : (ty == ty') = true := by rw [show ty = ty' from h2]; simp
              have he3 : (vl == vl') = false := by simp [show vl ≠ vl' from h]
              have hq3 : (vl != vl') = true := by simp [show vl ≠ vl' from h]
              have HH := Lib.hid h
              clear h h0 h1 h2
              go_wp2_with fail
              go_ret
              rw [F1.out]
              exact ⟨rfl, by first | exact BW.out.trans (Bab.out.mono BW.out.size) | exact BW.out.trans (Bba.out.mono BW.out.size)⟩
            · skip
              have hq0 : (nm.toList != nm'.toList) = false := by rw [show nm = nm' from h0]; simp
              have he0 : (nm.toList == nm'.toList) = true := by rw [show nm = nm' from h0]; simp
              have hq1 : (kd != kd') = false := by rw [show kd = kd' from h1]; simp
              have he1 : (kd == kd') = true := by rw [show kd = kd' from h1]; simp
              have hq2 : (ty != ty') = false := by rw [show ty = ty' from h2]; simp
              have he2 : (ty == ty') = true := by rw [show ty = ty' from h2]; simp
              have hq3 : (vl != vl') = false := by rw [show vl = vl' from h3]; simp
              have he3 : (vl == vl') = true := by rw [show vl = vl' from h3]; simp
              have HH := Lib.hid h
              clear h h0 h1 h2 h3
              have hd : decide (ps = ps') = false := decide_eq_false HH.out
              go_wp2_with fail
              refine (PP.out _ (by first | exact Bab.out | exact Bba.out)).mono ?_
              rintro e w3 ⟨rfl, hb3⟩
              have B3 := Lib.hid (show Below wr.heap.size wr w3 from by first | exact Bab.out.trans (hb3.mono Bab.out.size) | exact Bba.out.trans (hb3.mono Bba.out.size))
              clear hb3 PP Bab Bba e0 e1 e2 e3 e4 f0 f1 f2 f3 f4 m0 m1 m2 m3 m4 n0 n1 n2 n3 n4
              go_wp2_with fail
              go_ret
              rw [F1.out]
              exact ⟨rfl, BW.out.trans (B3.out.mono BW.out.size)⟩
      · have hI : ¬ (t : Int) < l1.length := by omega
        obtain rfl : t = l1.length := by omega
        have E := Lib.hid (AY.out (by
          have := HP.out
          rwa [List.take_length, HL.out, List.take_length] at this))
        go_wp2_with fail
        go_ret
        rw [E.out]
        exact ⟨rfl, BW.out⟩
  · have hnn : ((l1.length : Int) != (l2.length : Int)) = true := by simp; omega
    have E := Lib.hid (AN.out (fun e => hl (by
      have := congrArg List.length e
      rwa [List.length_map, List.length_map] at this)))
    go_enter Try.func52, Try.ntmps52
    go_wp2_with fail
    go_ret
    rw [E.out]
    exact ⟨rfl, Below.refl _ _⟩
end Go.Proofs.Ythmjniedfiabhaa
