/- Finger: the program's Same. -/
import Derived.Test.YthmjniedfiabhaaFngF
namespace Go.Proofs.Ythmjniedfiabhaa
open Go.ChangeShapes Go.WideShapes Go.ChangeAt Go.RowKit
set_option linter.unusedVariables false
set_option linter.unusedSimpArgs false

/-- Are two exports alike? -/
noncomputable def alikeX (x y : Ex) : Bool := @decide (x = y) (Classical.propDecidable _)

theorem alikeX_yes {x y : Ex} (h : x = y) : alikeX x y = true := @decide_eq_true _ (Classical.propDecidable _) h

theorem alikeX_no {x y : Ex} (h : x ≠ y) : alikeX x y = false := @decide_eq_false _ (Classical.propDecidable _) h

set_option maxHeartbeats 64000000 in
set_option maxRecDepth 100000 in
theorem sameexp_any (nm nm' : ByteArray) (kd ty vl kd' ty' vl' : Int) (ps ps' : List (Int × Bool)) (P1 P2 : Option Addr) (d1 d2 B1 B2 : Nat) (w : World) (hp1 : ParV B1 w (.slice P1 ps.length d1) ps) (hp2 : ParV B2 w (.slice P2 ps'.length d2) ps') (ok1 : ps.length * 16 ≤ 140737488355328) (ok2 : ps'.length * 16 ≤ 140737488355328) :
    Calls Try.prog 76 #[.agg #[.string nm, .int .i64 kd, .int .i64 ty, .int .i32 vl, .slice P1 ps.length d1], .agg #[.string nm', .int .i64 kd', .int .i64 ty', .int .i32 vl', .slice P2 ps'.length d2]] w fun e w' => e = .returned (.bool (alikeX ⟨nm, kd, ty, vl, ps⟩ ⟨nm', kd', ty', vl', ps'⟩)) ∧ Below w.heap.size w w' := by
  have AY := Lib.hid (show (⟨nm, kd, ty, vl, ps⟩ : Ex) = ⟨nm', kd', ty', vl', ps'⟩ → alikeX ⟨nm, kd, ty, vl, ps⟩ ⟨nm', kd', ty', vl', ps'⟩ = true from fun h => alikeX_yes h)
  have AN := Lib.hid (show (⟨nm, kd, ty, vl, ps⟩ : Ex) ≠ ⟨nm', kd', ty', vl', ps'⟩ → alikeX ⟨nm, kd, ty, vl, ps⟩ ⟨nm', kd', ty', vl', ps'⟩ = false from fun h => alikeX_no h)
  generalize alikeX ⟨nm, kd, ty, vl, ps⟩ ⟨nm', kd', ty', vl', ps'⟩ = R at *
  have PP := Lib.hid (fun W (hW : Below w.heap.size w W) => params_any P1 P2 d1 d2 B1 B2 ps ps' W (hp1.below hW) (hp2.below hW) ok1 ok2)
  have SP := Lib.hid (show (w.alloc (.cells #[.string nm, .int .i64 kd, .int .i64 ty, .int .i32 vl, .slice P1 ps.length d1] pE)).heap.size = w.heap.size + 1 by simp)
  have Ka := Lib.hid ((Whole.made w pE #[.string nm, .int .i64 kd, .int .i64 ty, .int .i32 vl, .slice P1 ps.length d1] _ rfl).alloc (.cells #[.string nm', .int .i64 kd', .int .i64 ty', .int .i32 vl', .slice P2 ps'.length d2] pE))
  have Kb := Lib.hid (Whole.made (w.alloc (.cells #[.string nm, .int .i64 kd, .int .i64 ty, .int .i32 vl, .slice P1 ps.length d1] pE)) pE #[.string nm', .int .i64 kd', .int .i64 ty', .int .i32 vl', .slice P2 ps'.length d2] (w.heap.size + 1) SP.out.symm)
  have BB := Lib.hid (show Below w.heap.size w ((w.alloc (.cells #[.string nm, .int .i64 kd, .int .i64 ty, .int .i32 vl, .slice P1 ps.length d1] pE)).alloc (.cells #[.string nm', .int .i64 kd', .int .i64 ty', .int .i32 vl', .slice P2 ps'.length d2] pE)) from ((Below.refl w.heap.size w).alloc (Nat.le_refl _) _).alloc (by simp) _)
  have e0 : ((w.alloc (.cells #[.string nm, .int .i64 kd, .int .i64 ty, .int .i32 vl, .slice P1 ps.length d1] pE)).alloc (.cells #[.string nm', .int .i64 kd', .int .i64 ty', .int .i32 vl', .slice P2 ps'.length d2] pE)).cell? ⟨w.heap.size, 0, none⟩ = some (.string nm) := Ka.out.cell 0
  have e1 : ((w.alloc (.cells #[.string nm, .int .i64 kd, .int .i64 ty, .int .i32 vl, .slice P1 ps.length d1] pE)).alloc (.cells #[.string nm', .int .i64 kd', .int .i64 ty', .int .i32 vl', .slice P2 ps'.length d2] pE)).cell? ⟨w.heap.size, 1, none⟩ = some (.int .i64 kd) := Ka.out.cell 1
  have e2 : ((w.alloc (.cells #[.string nm, .int .i64 kd, .int .i64 ty, .int .i32 vl, .slice P1 ps.length d1] pE)).alloc (.cells #[.string nm', .int .i64 kd', .int .i64 ty', .int .i32 vl', .slice P2 ps'.length d2] pE)).cell? ⟨w.heap.size, 2, none⟩ = some (.int .i64 ty) := Ka.out.cell 2
  have e3 : ((w.alloc (.cells #[.string nm, .int .i64 kd, .int .i64 ty, .int .i32 vl, .slice P1 ps.length d1] pE)).alloc (.cells #[.string nm', .int .i64 kd', .int .i64 ty', .int .i32 vl', .slice P2 ps'.length d2] pE)).cell? ⟨w.heap.size, 3, none⟩ = some (.int .i32 vl) := Ka.out.cell 3
  have e4 : ((w.alloc (.cells #[.string nm, .int .i64 kd, .int .i64 ty, .int .i32 vl, .slice P1 ps.length d1] pE)).alloc (.cells #[.string nm', .int .i64 kd', .int .i64 ty', .int .i32 vl', .slice P2 ps'.length d2] pE)).cell? ⟨w.heap.size, 4, none⟩ = some (.slice P1 ps.length d1) := Ka.out.cell 4
  have f0 : ((w.alloc (.cells #[.string nm, .int .i64 kd, .int .i64 ty, .int .i32 vl, .slice P1 ps.length d1] pE)).alloc (.cells #[.string nm', .int .i64 kd', .int .i64 ty', .int .i32 vl', .slice P2 ps'.length d2] pE)).cell? ⟨w.heap.size + 1, 0, none⟩ = some (.string nm') := Kb.out.cell 0
  have f1 : ((w.alloc (.cells #[.string nm, .int .i64 kd, .int .i64 ty, .int .i32 vl, .slice P1 ps.length d1] pE)).alloc (.cells #[.string nm', .int .i64 kd', .int .i64 ty', .int .i32 vl', .slice P2 ps'.length d2] pE)).cell? ⟨w.heap.size + 1, 1, none⟩ = some (.int .i64 kd') := Kb.out.cell 1
  have f2 : ((w.alloc (.cells #[.string nm, .int .i64 kd, .int .i64 ty, .int .i32 vl, .slice P1 ps.length d1] pE)).alloc (.cells #[.string nm', .int .i64 kd', .int .i64 ty', .int .i32 vl', .slice P2 ps'.length d2] pE)).cell? ⟨w.heap.size + 1, 2, none⟩ = some (.int .i64 ty') := Kb.out.cell 2
  have f3 : ((w.alloc (.cells #[.string nm, .int .i64 kd, .int .i64 ty, .int .i32 vl, .slice P1 ps.length d1] pE)).alloc (.cells #[.string nm', .int .i64 kd', .int .i64 ty', .int .i32 vl', .slice P2 ps'.length d2] pE)).cell? ⟨w.heap.size + 1, 3, none⟩ = some (.int .i32 vl') := Kb.out.cell 3
  have f4 : ((w.alloc (.cells #[.string nm, .int .i64 kd, .int .i64 ty, .int .i32 vl, .slice P1 ps.length d1] pE)).alloc (.cells #[.string nm', .int .i64 kd', .int .i64 ty', .int .i32 vl', .slice P2 ps'.length d2] pE)).cell? ⟨w.heap.size + 1, 4, none⟩ = some (.slice P2 ps'.length d2) := Kb.out.cell 4
  clear Ka Kb hp1 hp2
  by_cases hxy : (⟨nm, kd, ty, vl, ps⟩ : Ex) = ⟨nm', kd', ty', vl', ps'⟩
  · have T1 := Lib.hid (AY.out hxy)
    injection hxy with g0 g1 g2 g3 g4
    subst g0 g1 g2 g3 g4
    have hq1 : (nm.toList == nm.toList) = true := by simp
    have hd : decide (ps = ps) = true := decide_eq_true rfl
    clear AY AN
    go_enter Try.func76, Try.ntmps76
    go_wp2_with fail
    refine (PP.out _ BB.out).mono ?_
    rintro e w3 ⟨rfl, hb3⟩
    have B3 := Lib.hid (BB.out.trans (hb3.mono BB.out.size))
    clear hb3 PP BB e0 e1 e2 e3 e4 f0 f1 f2 f3 f4
    go_wp2_with fail
    go_ret
    rw [T1.out]
    exact ⟨rfl, B3.out⟩
  · have F1 := Lib.hid (AN.out hxy)
    obtain D := difX hxy
    have NXY := Lib.hid hxy
    clear hxy AY AN
    rcases D with h | ⟨h0, h⟩ | ⟨h0, h1, h⟩ | ⟨h0, h1, h2, h⟩ | ⟨h0, h1, h2, h3, h⟩
    · skip
      have he0 : (nm.toList == nm'.toList) = false := nm_ne (show nm ≠ nm' from h)
      have hq0 : (nm.toList != nm'.toList) = true := by simp only [bne, he0, Bool.not_false]
      have HH := Lib.hid h
      clear h
      go_enter Try.func76, Try.ntmps76
      go_wp2_with fail
      go_ret
      rw [F1.out]
      exact ⟨rfl, BB.out⟩
    · skip
      have hq0 : (nm.toList != nm'.toList) = false := by rw [show nm = nm' from h0]; simp
      have he0 : (nm.toList == nm'.toList) = true := by rw [show nm = nm' from h0]; simp
      have he1 : (kd == kd') = false := by simp [show kd ≠ kd' from h]
      have hq1 : (kd != kd') = true := by simp [show kd ≠ kd' from h]
      have HH := Lib.hid h
      clear h h0
      go_enter Try.func76, Try.ntmps76
      go_wp2_with fail
      go_ret
      rw [F1.out]
      exact ⟨rfl, BB.out⟩
    · skip
      have hq0 : (nm.toList != nm'.toList) = false := by rw [show nm = nm' from h0]; simp
      have he0 : (nm.toList == nm'.toList) = true := by rw [show nm = nm' from h0]; simp
      have hq1 : (kd != kd') = false := by rw [show kd = kd' from h1]; simp
      have he1 : (kd == kd') = true := by rw [show kd = kd' from h1]; simp
      have he2 : (ty == ty') = false := by simp [show ty ≠ ty' from h]
      have hq2 : (ty != ty') = true := by simp [show ty ≠ ty' from h]
      have HH := Lib.hid h
      clear h h0 h1
      go_enter Try.func76, Try.ntmps76
      go_wp2_with fail
      go_ret
      rw [F1.out]
      exact ⟨rfl, BB.out⟩
    · skip
      have hq0 : (nm.toList != nm'.toList) = false := by rw [show nm = nm' from h0]; simp
      have he0 : (nm.toList == nm'.toList) = true := by rw [show nm = nm' from h0]; simp
      have hq1 : (kd != kd') = false := by rw [show kd = kd' from h1]; simp
      have he1 : (kd == kd') = true := by rw [show kd = kd' from h1]; simp
      have hq2 : (ty != ty') = false := by rw [show ty = ty' from h2]; simp
      have he2 : (ty == ty') = true := by rw [show ty = ty' from h2]; simp
      have he3 : (vl == vl') = false := by simp [show vl ≠ vl' from h]
      have hq3 : (vl != vl') = true := by simp [show vl ≠ vl' from h]
      have HH := Lib.hid h
      clear h h0 h1 h2
      go_enter Try.func76, Try.ntmps76
      go_wp2_with fail
      go_ret
      rw [F1.out]
      exact ⟨rfl, BB.out⟩
    · skip
      have hq0 : (nm.toList != nm'.toList) = false := by rw [show nm = nm' from h0]; simp
      have he0 : (nm.toList == nm'.toList) = true := by rw [show nm = nm' from h0]; simp
      have hq1 : (kd != kd') = false := by rw [show kd = kd' from h1]; simp
      have he1 : (kd == kd') = true := by rw [show kd = kd' from h1]; simp
      have hq2 : (ty != ty') = false := by rw [show ty = ty' from h2]; simp
      have he2 : (ty == ty') = true := by rw [show ty = ty' from h2]; simp
      have hq3 : (vl != vl') = false := by rw [show vl = vl' from h3]; simp
      have he3 : (vl == vl') = true := by rw [show vl = vl' from h3]; simp
      have HH := Lib.hid h
      clear h h0 h1 h2 h3
      have hd : decide (ps = ps') = false := decide_eq_false HH.out
      go_enter Try.func76, Try.ntmps76
      go_wp2_with fail
      refine (PP.out _ BB.out).mono ?_
      rintro e w3 ⟨rfl, hb3⟩
      have B3 := Lib.hid (BB.out.trans (hb3.mono BB.out.size))
      clear hb3 PP BB e0 e1 e2 e3 e4 f0 f1 f2 f3 f4
      go_wp2_with fail
      go_ret
      rw [F1.out]
      exact ⟨rfl, B3.out⟩

set_option maxHeartbeats 64000000 in
set_option maxRecDepth 100000 in
theorem equalfunc_any (A1 A2 : Option Addr) (c1 c2 B1 B2 : Nat) (l1 l2 : List Exx) (w : World) (h1 : ExpR B1 w (.slice A1 l1.length c1) l1) (h2 : ExpR B2 w (.slice A2 l2.length c2) l2) (hn : l1.length * 64 ≤ 140737488355328) (hn2 : l2.length * 64 ≤ 140737488355328) (ho1 : ∀ x ∈ l1, x.1.ps.length * 16 ≤ 140737488355328) (ho2 : ∀ x ∈ l2, x.1.ps.length * 16 ≤ 140737488355328) :
    Calls Try.prog 75 #[.slice A1 l1.length c1, .slice A2 l2.length c2, .func (.func 76) #[] #[]] w fun e w' => e = .returned (.bool (alike (l1.map (·.1)) (l2.map (·.1)))) ∧ Below w.heap.size w w' := by
  have H1 := Lib.hid h1
  have H2 := Lib.hid h2
  have O1 := Lib.hid ho1
  have O2 := Lib.hid ho2
  have AY := Lib.hid (show l1.map (·.1) = l2.map (·.1) → alike (l1.map (·.1)) (l2.map (·.1)) = true from fun h => alike_yes h)
  have AN := Lib.hid (show l1.map (·.1) ≠ l2.map (·.1) → alike (l1.map (·.1)) (l2.map (·.1)) = false from fun h => alike_no h)
  generalize alike (l1.map (·.1)) (l2.map (·.1)) = R at *
  clear h1 h2 ho1 ho2
  by_cases hl : l1.length = l2.length
  · have HL := Lib.hid hl
    have hnn : ((l1.length : Int) != (l1.length : Int)) = false := by simp
    rw [← hl] at H2 ⊢
    clear hn2 hl
    go_enter Try.func75, Try.ntmps75
    go_wp2_with fail
    go_loopw [17] (fun i wr => ∃ t : Nat, t ≤ l1.length ∧ i = .int .i64 t ∧ (l1.take t).map (·.1) = (l2.take t).map (·.1) ∧ Below w.heap.size w wr) (fun i _ => l1.length - (intOf i).toNat)
    case atStart => exact ⟨0, Nat.zero_le _, rfl, rfl, Below.refl _ _⟩
    case round =>
      obtain ⟨t, ht, rfl, hp, hb⟩ := hrel
      have BW := Lib.hid hb
      have HP := Lib.hid hp
      clear hp
      by_cases hlt : t < l1.length
      · have hI : (t : Int) < l1.length := by omega
        have hlt2 : t < l2.length := by rw [← HL.out]; exact hlt
        have TS := Lib.hid (fun he => map_take_same hlt hlt2 HP.out he)
        have TN := Lib.hid (fun he => AN.out (map_dif hlt hlt2 he))
        have ok1 := O1.out _ (getD_mem zEx hlt)
        have ok2 := O2.out _ (getD_mem zEx hlt2)
        have K1 := H1.out.below hb
        have K2 := H2.out.below hb
        rw [HL.out] at K2
        obtain ⟨b1, o1, rfl, hl1, nm, kd, ty, vl, ps, P1, d1, hX, hp1, hx⟩ := K1.at hlt
        have b1' := (Below.refl wr.heap.size wr).alloc (Nat.le_refl _) (.cells #[.string nm, .int .i64 kd, .int .i64 ty, .int .i32 vl, .slice P1 ps.length d1] pE)
        obtain ⟨b2, o2, rfl, hl2, nm', kd', ty', vl', ps', P2, d2, hY, hp2, hy⟩ := (K2.below b1').at hlt2
        rw [hX] at TS TN ok1
        rw [hY] at TS TN ok2
        have x0 : wr.cell? ⟨b1, o1 + t * 5, none⟩ = some (.string nm) := hx 0 _ rfl
        have x1 : wr.cell? ⟨b1, o1 + t * 5 + 1, none⟩ = some (.int .i64 kd) := hx 1 _ rfl
        have x2 : wr.cell? ⟨b1, o1 + t * 5 + 2, none⟩ = some (.int .i64 ty) := hx 2 _ rfl
        have x3 : wr.cell? ⟨b1, o1 + t * 5 + 3, none⟩ = some (.int .i32 vl) := hx 3 _ rfl
        have x4 : wr.cell? ⟨b1, o1 + t * 5 + 4, none⟩ = some (.slice P1 ps.length d1) := hx 4 _ rfl
        have y0 : (wr.alloc (.cells #[.string nm, .int .i64 kd, .int .i64 ty, .int .i32 vl, .slice P1 ps.length d1] pE)).cell? ⟨b2, o2 + t * 5, none⟩ = some (.string nm') := hy 0 _ rfl
        have y1 : (wr.alloc (.cells #[.string nm, .int .i64 kd, .int .i64 ty, .int .i32 vl, .slice P1 ps.length d1] pE)).cell? ⟨b2, o2 + t * 5 + 1, none⟩ = some (.int .i64 kd') := hy 1 _ rfl
        have y2 : (wr.alloc (.cells #[.string nm, .int .i64 kd, .int .i64 ty, .int .i32 vl, .slice P1 ps.length d1] pE)).cell? ⟨b2, o2 + t * 5 + 2, none⟩ = some (.int .i64 ty') := hy 2 _ rfl
        have y3 : (wr.alloc (.cells #[.string nm, .int .i64 kd, .int .i64 ty, .int .i32 vl, .slice P1 ps.length d1] pE)).cell? ⟨b2, o2 + t * 5 + 3, none⟩ = some (.int .i32 vl') := hy 3 _ rfl
        have y4 : (wr.alloc (.cells #[.string nm, .int .i64 kd, .int .i64 ty, .int .i32 vl, .slice P1 ps.length d1] pE)).cell? ⟨b2, o2 + t * 5 + 4, none⟩ = some (.slice P2 ps'.length d2) := hy 4 _ rfl
        have SP := Lib.hid (show (wr.alloc (.cells #[.string nm, .int .i64 kd, .int .i64 ty, .int .i32 vl, .slice P1 ps.length d1] pE)).heap.size = wr.heap.size + 1 by simp)
        have Ka := Lib.hid ((Whole.made wr pE #[.string nm, .int .i64 kd, .int .i64 ty, .int .i32 vl, .slice P1 ps.length d1] _ rfl).alloc (.cells #[.string nm', .int .i64 kd', .int .i64 ty', .int .i32 vl', .slice P2 ps'.length d2] pE))
        have Kb := Lib.hid (Whole.made (wr.alloc (.cells #[.string nm, .int .i64 kd, .int .i64 ty, .int .i32 vl, .slice P1 ps.length d1] pE)) pE #[.string nm', .int .i64 kd', .int .i64 ty', .int .i32 vl', .slice P2 ps'.length d2] (wr.heap.size + 1) SP.out.symm)
        have b2' := (Below.refl (wr.alloc (.cells #[.string nm, .int .i64 kd, .int .i64 ty, .int .i32 vl, .slice P1 ps.length d1] pE)).heap.size (wr.alloc (.cells #[.string nm, .int .i64 kd, .int .i64 ty, .int .i32 vl, .slice P1 ps.length d1] pE))).alloc (Nat.le_refl _) (.cells #[.string nm', .int .i64 kd', .int .i64 ty', .int .i32 vl', .slice P2 ps'.length d2] pE)
        have BB := Lib.hid (show Below wr.heap.size wr ((wr.alloc (.cells #[.string nm, .int .i64 kd, .int .i64 ty, .int .i32 vl, .slice P1 ps.length d1] pE)).alloc (.cells #[.string nm', .int .i64 kd', .int .i64 ty', .int .i32 vl', .slice P2 ps'.length d2] pE)) from b1'.trans (b2'.mono b1'.size))
        have SE := Lib.hid (sameexp_any nm nm' kd ty vl kd' ty' vl' ps ps' P1 P2 d1 d2 B1 B2 ((wr.alloc (.cells #[.string nm, .int .i64 kd, .int .i64 ty, .int .i32 vl, .slice P1 ps.length d1] pE)).alloc (.cells #[.string nm', .int .i64 kd', .int .i64 ty', .int .i32 vl', .slice P2 ps'.length d2] pE)) (hp1.below BB.out) (hp2.below b2') ok1 ok2)
        have e0 : ((wr.alloc (.cells #[.string nm, .int .i64 kd, .int .i64 ty, .int .i32 vl, .slice P1 ps.length d1] pE)).alloc (.cells #[.string nm', .int .i64 kd', .int .i64 ty', .int .i32 vl', .slice P2 ps'.length d2] pE)).cell? ⟨wr.heap.size, 0, none⟩ = some (.string nm) := Ka.out.cell 0
        have e1 : ((wr.alloc (.cells #[.string nm, .int .i64 kd, .int .i64 ty, .int .i32 vl, .slice P1 ps.length d1] pE)).alloc (.cells #[.string nm', .int .i64 kd', .int .i64 ty', .int .i32 vl', .slice P2 ps'.length d2] pE)).cell? ⟨wr.heap.size, 1, none⟩ = some (.int .i64 kd) := Ka.out.cell 1
        have e2 : ((wr.alloc (.cells #[.string nm, .int .i64 kd, .int .i64 ty, .int .i32 vl, .slice P1 ps.length d1] pE)).alloc (.cells #[.string nm', .int .i64 kd', .int .i64 ty', .int .i32 vl', .slice P2 ps'.length d2] pE)).cell? ⟨wr.heap.size, 2, none⟩ = some (.int .i64 ty) := Ka.out.cell 2
        have e3 : ((wr.alloc (.cells #[.string nm, .int .i64 kd, .int .i64 ty, .int .i32 vl, .slice P1 ps.length d1] pE)).alloc (.cells #[.string nm', .int .i64 kd', .int .i64 ty', .int .i32 vl', .slice P2 ps'.length d2] pE)).cell? ⟨wr.heap.size, 3, none⟩ = some (.int .i32 vl) := Ka.out.cell 3
        have e4 : ((wr.alloc (.cells #[.string nm, .int .i64 kd, .int .i64 ty, .int .i32 vl, .slice P1 ps.length d1] pE)).alloc (.cells #[.string nm', .int .i64 kd', .int .i64 ty', .int .i32 vl', .slice P2 ps'.length d2] pE)).cell? ⟨wr.heap.size, 4, none⟩ = some (.slice P1 ps.length d1) := Ka.out.cell 4
        have f0 : ((wr.alloc (.cells #[.string nm, .int .i64 kd, .int .i64 ty, .int .i32 vl, .slice P1 ps.length d1] pE)).alloc (.cells #[.string nm', .int .i64 kd', .int .i64 ty', .int .i32 vl', .slice P2 ps'.length d2] pE)).cell? ⟨wr.heap.size + 1, 0, none⟩ = some (.string nm') := Kb.out.cell 0
        have f1 : ((wr.alloc (.cells #[.string nm, .int .i64 kd, .int .i64 ty, .int .i32 vl, .slice P1 ps.length d1] pE)).alloc (.cells #[.string nm', .int .i64 kd', .int .i64 ty', .int .i32 vl', .slice P2 ps'.length d2] pE)).cell? ⟨wr.heap.size + 1, 1, none⟩ = some (.int .i64 kd') := Kb.out.cell 1
        have f2 : ((wr.alloc (.cells #[.string nm, .int .i64 kd, .int .i64 ty, .int .i32 vl, .slice P1 ps.length d1] pE)).alloc (.cells #[.string nm', .int .i64 kd', .int .i64 ty', .int .i32 vl', .slice P2 ps'.length d2] pE)).cell? ⟨wr.heap.size + 1, 2, none⟩ = some (.int .i64 ty') := Kb.out.cell 2
        have f3 : ((wr.alloc (.cells #[.string nm, .int .i64 kd, .int .i64 ty, .int .i32 vl, .slice P1 ps.length d1] pE)).alloc (.cells #[.string nm', .int .i64 kd', .int .i64 ty', .int .i32 vl', .slice P2 ps'.length d2] pE)).cell? ⟨wr.heap.size + 1, 3, none⟩ = some (.int .i32 vl') := Kb.out.cell 3
        have f4 : ((wr.alloc (.cells #[.string nm, .int .i64 kd, .int .i64 ty, .int .i32 vl, .slice P1 ps.length d1] pE)).alloc (.cells #[.string nm', .int .i64 kd', .int .i64 ty', .int .i32 vl', .slice P2 ps'.length d2] pE)).cell? ⟨wr.heap.size + 1, 4, none⟩ = some (.slice P2 ps'.length d2) := Kb.out.cell 4
        have XN := Lib.hid (show (⟨nm, kd, ty, vl, ps⟩ : Ex) ≠ ⟨nm', kd', ty', vl', ps'⟩ → alikeX ⟨nm, kd, ty, vl, ps⟩ ⟨nm', kd', ty', vl', ps'⟩ = false from fun h => alikeX_no h)
        have XE := Lib.hid (show (⟨nm, kd, ty, vl, ps⟩ : Ex) = ⟨nm', kd', ty', vl', ps'⟩ → alikeX ⟨nm, kd, ty, vl, ps⟩ ⟨nm', kd', ty', vl', ps'⟩ = true from fun h => alikeX_yes h)
        have DD := Lib.hid (show (⟨nm, kd, ty, vl, ps⟩ : Ex) = ⟨nm', kd', ty', vl', ps'⟩ ∨ ¬ ((⟨nm, kd, ty, vl, ps⟩ : Ex) = ⟨nm', kd', ty', vl', ps'⟩) from Classical.em _)
        generalize alikeX ⟨nm, kd, ty, vl, ps⟩ ⟨nm', kd', ty', vl', ps'⟩ = rx at *
        clear hb hx hy hp1 hp2 hX hY ok1 ok2 K1 K2 b1' b2' SP Ka Kb
        go_wp2_with fail
        clear x0 x1 x2 x3 x4 y0 y1 y2 y3 y4 e0 e1 e2 e3 e4 f0 f1 f2 f3 f4
        refine SE.out.mono ?_
        rintro e w3 ⟨rfl, hb3⟩
        have B3 := Lib.hid (BB.out.trans (hb3.mono BB.out.size))
        clear hb3 BB SE
        rcases DD.out with hxy | hxy
        · have T1 := Lib.hid (TS.out hxy)
          obtain rfl : rx = true := XE.out hxy
          clear TS TN XN XE DD hxy
          go_wp2_with fail
          go_roundw
          case rel => exact ⟨t + 1, by omega, by go_num, T1.out, BW.out.trans (B3.out.mono BW.out.size)⟩
          case measure => simp [intOf]; omega
        · have F1 := Lib.hid (TN.out hxy)
          obtain rfl : rx = false := XN.out hxy
          clear TS TN XN XE DD hxy
          go_wp2_with fail
          go_ret
          rw [F1.out]
          exact ⟨rfl, BW.out.trans (B3.out.mono BW.out.size)⟩
      · have hI : ¬ (t : Int) < l1.length := by omega
        obtain rfl : t = l1.length := by omega
        have E := Lib.hid (AY.out (by
          have := HP.out
          rwa [List.take_length, HL.out, List.take_length] at this))
        go_wp2_with fail
        go_ret
        rw [E.out]
        exact ⟨rfl, BW.out⟩
  · have hnn : ((l1.length : Int) != (l2.length : Int)) = true := by simp; omega
    have E := Lib.hid (AN.out (fun e => hl (by
      have := congrArg List.length e
      rwa [List.length_map, List.length_map] at this)))
    go_enter Try.func75, Try.ntmps75
    go_wp2_with fail
    go_ret
    rw [E.out]
    exact ⟨rfl, Below.refl _ _⟩

set_option maxHeartbeats 4000000 in
set_option maxRecDepth 100000 in
theorem fsame_any (A1 A2 : Option Addr) (c1 c2 B1 B2 : Nat) (l1 l2 : List Exx) (w : World) (h1 : ExpR B1 w (.slice A1 l1.length c1) l1) (h2 : ExpR B2 w (.slice A2 l2.length c2) l2) (hn : l1.length * 64 ≤ 140737488355328) (hn2 : l2.length * 64 ≤ 140737488355328) (ho1 : ∀ x ∈ l1, x.1.ps.length * 16 ≤ 140737488355328) (ho2 : ∀ x ∈ l2, x.1.ps.length * 16 ≤ 140737488355328) :
    Calls Try.prog 54 #[.slice A1 l1.length c1, .slice A2 l2.length c2] w fun e w' => e = .returned (.bool (alike (l1.map (·.1)) (l2.map (·.1)))) ∧ Below w.heap.size w w' := by
  have E := Lib.hid (equalfunc_any A1 A2 c1 c2 B1 B2 l1 l2 w h1 h2 hn hn2 ho1 ho2)
  clear h1 h2 ho1 ho2
  generalize alike (l1.map (·.1)) (l2.map (·.1)) = R at *
  go_enter Try.func54, Try.ntmps54
  go_wp2_with fail
  refine E.out.mono ?_
  rintro e w3 ⟨rfl, hb3⟩
  have B3 := Lib.hid hb3
  clear hb3
  go_wp2_with fail
  go_ret
  exact ⟨rfl, B3.out⟩
end Go.Proofs.Ythmjniedfiabhaa
