/- Finger: the law FingerReads. -/
import Derived.Test.YthaclkdclkhclaaFngP
import Derived.Test.YthaclkdclkhclaaFngG
import Derived.Test.YthaclkdclkhclaaNumsCap
namespace Go.Proofs.Ythaclkdclkhclaa
open Go.ChangeShapes Go.WideShapes Go.ChangeAt Go.RowKit
set_option linter.unusedVariables false
set_option linter.unusedSimpArgs false

set_option maxHeartbeats 32000000 in
set_option maxRecDepth 100000 in
theorem reads_walk (W : World) (A : Option Addr) (n c : Nat) (zs : List Int) (hz : Nums .u8 W A n zs) (hm : n ≤ maxLen) (wz : Byt zs) (hcap : n ≤ c) :
    Calls Try.prog 5 #[.slice A n c] W fun e w' => e = .returned (.bool true) ∧ Below W.heap.size W w' := by
  have AW := Lib.hid (awake13_any W)
  unfold maxLen at hm
  by_cases hn : 2000 < n
  · have hI : (2000 : Int) < n := by omega
    clear hz wz
    go_enter Try.func5, Try.ntmps5
    go_wp2_with fail
    refine AW.out.mono ?_
    rintro e w1 ⟨rfl, rfl⟩
    go_wp2_with fail
    go_ret
    exact ⟨rfl, Below.refl _ _⟩
  · have hI : ¬ (2000 : Int) < n := by omega
    have OK := Lib.hid (show RdOk (zs, 0) from ⟨wz, by have := hz.1; show zs.length ≤ 2000; omega, fun h => absurd rfl h⟩)
    have RD := Lib.hid (read_any A n c zs W hz (by omega))
    have RV := Lib.hid (show RfV W A n c zs 0 from ⟨fun _ => ⟨hz, hcap⟩, fun h => absurd rfl h⟩)
    have AI := Lib.hid (rdAll_in (zs, 0))
    have RR := Lib.hid (fun g D w h => read13_any g D (zs, 0) w h OK.out)
    have TT := Lib.hid (fun w (hb : Below W.heap.size W w) => take13_any A n c (zs, 0) W w hb RV.out (by omega) OK.out)
    clear hz wz
    go_enter Try.func5, Try.ntmps5
    go_wp2_with fail
    refine AW.out.mono ?_
    rintro e w1 ⟨rfl, rfl⟩
    go_wp2_with fail
    refine RD.out.mono ?_
    rintro e w2 ⟨g, D, rfl, hg, hD, hb2, hr2⟩
    have B2 := Lib.hid hb2
    have HG := Lib.hid hg
    have Q2 := Lib.hid (RR.out g D w2 hr2)
    clear hb2 hg hr2 RD RR
    go_wp2_with fail
    refine Q2.out.mono ?_
    rintro e w3 ⟨v1, l1, rfl, hrow, hl1, hr3, hk3⟩
    obtain ⟨A1, c1, rfl⟩ := row_form hrow.row
    have B3 := Lib.hid (KeptS.below B2.out hk3 B2.out.size (fun i hi => by have hi : i = g := hi; have := HG.out; omega))
    have R3 := Lib.hid hr3
    have E3 := Lib.hid hrow.toR
    have L1 := Lib.hid hl1
    have T3 := Lib.hid (TT.out w3 B3.out)
    clear hrow hl1 hr3 hk3 Q2 TT B2
    go_wp2_with fail
    refine T3.out.mono ?_
    rintro e w4 ⟨A2, n2, c2, v2, l2, rfl, hrv, hrow, hl2, hb4⟩
    obtain ⟨A4, c4, rfl⟩ := row_form hrow.row
    have b5 := (Below.refl w4.heap.size w4).alloc (Nat.le_refl _) (.cells #[.slice A2 n2 c2, .int .i64 (rdAll (zs, 0)).2.2] rfT)
    have B5 := Lib.hid ((B3.out.trans (hb4.mono B3.out.size)).trans (b5.mono (Nat.le_trans B3.out.size hb4.size)))
    have R5 := Lib.hid ((R3.out.below hb4).below b5)
    have E5 := Lib.hid ((E3.out.below hb4).below b5)
    have D5 := Lib.hid (hrow.toR.below b5)
    have V5 := Lib.hid (show RfV W A2 n2 c2 (rdAll (zs, 0)).2.1 (rdAll (zs, 0)).2.2 from hrv)
    have L2 := Lib.hid hl2
    have X5 := Lib.hid (Whole.made w4 rfT #[.slice A2 n2 c2, .int .i64 (rdAll (zs, 0)).2.2] _ rfl)
    clear hrow hl2 hrv hb4 b5 T3 B3 R3 E3
    generalize rdAll (zs, 0) = ra at *
    obtain ⟨rl, rz, re⟩ := ra
    have X6 := Lib.hid (show Whole (w4.alloc (.cells #[.slice A2 n2 c2, .int .i64 re] rfT)) w4.heap.size rfT #[.slice A2 n2 c2, .int .i64 re] from X5.out)
    have R6 := Lib.hid (show RdAt (w4.alloc (.cells #[.slice A2 n2 c2, .int .i64 re] rfT)) g D rz re from R5.out)
    have V6 := Lib.hid (show RfV W A2 n2 c2 rz re from V5.out)
    have M1 := Lib.hid (show l1.map (·.1) = rl from L1.out)
    have M2 := Lib.hid (show l2.map (·.1) = rl from L2.out)
    have N1 := Lib.hid (show rl.length ≤ 4096 ∧ ∀ x ∈ rl, x.ps.length ≤ 16 from AI.out)
    clear X5 R5 V5 L1 L2 AI
    go_wp2_with fail
    generalize w4.alloc (.cells #[.slice A2 n2 c2, .int .i64 re] rfT) = V at *
    generalize w4.heap.size = q at *
    have C := Lib.hid (fun y (hy : Below V.heap.size V y) => show (fun y => Below V.heap.size V y ∧ y.cell? ⟨q, 0, none⟩ = some (.slice A2 n2 c2) ∧ y.cell? ⟨q, 1, none⟩ = some (.int .i64 re)) y from ⟨hy, (X6.out.below hy X6.out.lt).cell 0, (X6.out.below hy X6.out.lt).cell 1⟩)
    have L0 := C.out V.drew (Below.refl _ _).drew
    have ER := Lib.hid (show ∀ y, (Below V.heap.size V y ∧ y.cell? ⟨q, 0, none⟩ = some (.slice A2 n2 c2) ∧ y.cell? ⟨q, 1, none⟩ = some (.int .i64 re)) → Calls Try.prog 21 #[.pointer (some ⟨g, 0, none⟩)] y (fun e y' => e = .returned (.int .i64 re) ∧ (fun y => Below V.heap.size V y ∧ y.cell? ⟨q, 0, none⟩ = some (.slice A2 n2 c2) ∧ y.cell? ⟨q, 1, none⟩ = some (.int .i64 re)) y') from fun y hy => (rerr_any g D rz re y (R6.out.below hy.1)).mono (fun e y' h => ⟨h.1, h.2 ▸ hy⟩))
    have RL := Lib.hid (show ∀ y, (Below V.heap.size V y ∧ y.cell? ⟨q, 0, none⟩ = some (.slice A2 n2 c2) ∧ y.cell? ⟨q, 1, none⟩ = some (.int .i64 re)) → Calls Try.prog 22 #[.pointer (some ⟨g, 0, none⟩)] y (fun e y' => e = .returned (.int .i64 rz.length) ∧ (fun y => Below V.heap.size V y ∧ y.cell? ⟨q, 0, none⟩ = some (.slice A2 n2 c2) ∧ y.cell? ⟨q, 1, none⟩ = some (.int .i64 re)) y') from fun y hy => (rleft_any g D rz re y (R6.out.below hy.1)).mono (fun e y' h => ⟨h.1, h.2 ▸ hy⟩))
    have LF := Lib.hid (show ∀ y, (Below V.heap.size V y ∧ y.cell? ⟨q, 0, none⟩ = some (.slice A2 n2 c2) ∧ y.cell? ⟨q, 1, none⟩ = some (.int .i64 re)) → Calls Try.prog 23 #[.agg #[.slice A2 n2 c2, .int .i64 re]] y (fun e y' => e = .returned (.int .i64 rz.length) ∧ (fun y => Below V.heap.size V y ∧ y.cell? ⟨q, 0, none⟩ = some (.slice A2 n2 c2) ∧ y.cell? ⟨q, 1, none⟩ = some (.int .i64 re)) y') from fun y hy => (refleft_any A2 n2 c2 rz re y (V6.out.below (B5.out.trans (hy.1.mono B5.out.size)))).mono (fun e y' h => ⟨h.1, C.out y' (hy.1.trans (h.2.mono hy.1.size))⟩))
    have P1 := Lib.hid (show l1.length ≤ 4096 ∧ ∀ x ∈ l1, x.1.ps.length ≤ 16 from by
      obtain ⟨h1, h2⟩ := N1.out
      rw [← M1.out] at h1 h2
      rw [List.length_map] at h1
      exact ⟨h1, fun x hx => h2 x.1 (List.mem_map.2 ⟨x, hx, rfl⟩)⟩)
    have P2 := Lib.hid (show l2.length ≤ 4096 ∧ ∀ x ∈ l2, x.1.ps.length ≤ 16 from by
      obtain ⟨h1, h2⟩ := N1.out
      rw [← M2.out] at h1 h2
      rw [List.length_map] at h1
      exact ⟨h1, fun x hx => h2 x.1 (List.mem_map.2 ⟨x, hx, rfl⟩)⟩)
    have SM := Lib.hid (show ∀ y, (Below V.heap.size V y ∧ y.cell? ⟨q, 0, none⟩ = some (.slice A2 n2 c2) ∧ y.cell? ⟨q, 1, none⟩ = some (.int .i64 re)) → Calls Try.prog 24 #[.slice A1 l1.length c1, .slice A4 l2.length c4] y (fun e y' => e = .returned (.bool true) ∧ (fun y => Below V.heap.size V y ∧ y.cell? ⟨q, 0, none⟩ = some (.slice A2 n2 c2) ∧ y.cell? ⟨q, 1, none⟩ = some (.int .i64 re)) y') from fun y hy => (exsame_any A1 A4 c1 c4 0 0 l1 l2 y (E5.out.below hy.1) (D5.out.below hy.1) (by have := P1.out.1; omega) (by have := P2.out.1; omega) (fun x hx => by have := P1.out.2 x hx; omega) (fun x hx => by have := P2.out.2 x hx; omega)).mono (fun e y' h => ⟨by rw [h.1, alike_yes (M1.out.trans M2.out.symm)], C.out y' (hy.1.trans (h.2.mono hy.1.size))⟩))
    clear R6 V6 E5 D5 X6 N1 P1 P2 M1 M2 OK RV
    go_region_held3 (fun y => Below V.heap.size V y ∧ y.cell? ⟨q, 0, none⟩ = some (.slice A2 n2 c2) ∧ y.cell? ⟨q, 1, none⟩ = some (.int .i64 re))
      (first
        | with_reducible assumption
        | with_reducible exact L0
        | fail)
      (first
        | (go_at_call 21; refine (ER.out _ (by assumption)).mono ?_; rintro e y1 ⟨rfl, hs1⟩)
        | (go_at_call 22; refine (RL.out _ (by assumption)).mono ?_; rintro e y2 ⟨rfl, hs2⟩)
        | (go_at_call 23; refine (LF.out _ (by assumption)).mono ?_; rintro e y3 ⟨rfl, hs3⟩)
        | (go_at_call 24; refine (SM.out _ (by assumption)).mono ?_; rintro e y4 ⟨rfl, hs4⟩))
    all_goals
      rename_i hH
      have BH := Lib.hid (B5.out.trans (hH.1.mono B5.out.size))
      clear hH L0 C ER RL LF SM
      go_wp2_with fail
      go_ret
      exact ⟨rfl, BH.out⟩
end Go.Proofs.Ythaclkdclkhclaa
