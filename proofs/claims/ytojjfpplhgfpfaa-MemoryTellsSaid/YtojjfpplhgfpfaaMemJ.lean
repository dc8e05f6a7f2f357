/- The laws' own: few, Same, awake. -/
import Derived.Test.YtojjfpplhgfpfaaMemI
import Derived.Test.YtojjfpplhgfpfaaMemG
import Derived.Test.YtojjfpplhgfpfaaArrEq
namespace Go.Proofs.Ytojjfpplhgfpfaa
open Go.ChangeShapes Go.WideShapes Go.ChangeAt Go.RowKit
set_option linter.unusedVariables false

theorem u32_of_wf {z : Int} (h : (Lit.int .u32 z).wf = true) : U32 z := by
  obtain ⟨a, b⟩ := bounds_u32 h
  exact ⟨a, b⟩

/-- What few asks. -/
def FewOk (e0 e1 e2 e3 e4 : Int) (n : Nat) (f : Nat → OpR) : Prop := ¬ (okEnds e0 e1 e2 e3 e4 = true ∧ 4096 < e4) ∧ n ≤ 40 ∧ ∀ j, j < n → (f j).m ≤ 2000

def FewPost (n : Nat) (f : Nat → OpR) (w : World) (e : Ending) (w' : World) : Prop := ∃ b : Bool, e = .returned (.bool b) ∧ (b = true → ∀ j, j < n → (f j).m ≤ 2000) ∧ Below w.heap.size w w'

set_option maxHeartbeats 8000000 in
set_option maxRecDepth 100000 in
theorem few_loop (e0 e1 e2 e3 e4 : Int) (A : Option Addr) (n c : Nat) (f : Nat → OpR) (w : World) (u0 : U32 e0) (u1 : U32 e1) (u2 : U32 e2) (u3 : U32 e3) (u4 : U32 e4) (hO : OpsAt w A n f) (bk bm : Bool) (hbk : okEnds e0 e1 e2 e3 e4 = bk) (hbm : decide (4096 < e4) = bm) (hbb : (bk && bm) = false) (hn : n ≤ 40) :
    Calls Try.prog 8 #[endsV e0 e1 e2 e3 e4, .slice A n c] w (FewPost n f w) := by
  have hR := fun w => refright_any e0 e1 e2 e3 e4 w u0 u1 u2 u3 u4
  have EN := Lib.hid (fun w => lawEnds_any e0 e1 e2 e3 e4 w)
  simp only [hbk] at hR
  have RI := Lib.hid hR
  have OA := Lib.hid hO
  have dn : decide ((40 : Int) < (n : Int)) = false := by simp; omega
  clear hR hbk hO u0 u1 u2 u3 u4
  unfold endsV at *
  go_enter Try.func8, Try.ntmps8
  go_wp2_with fail
  refine (EN.out _).mono ?_
  rintro e w1 ⟨rfl, hb1⟩
  have Q1 := Lib.hid ((Whole.made w 24 #[.int .u32 e0, .int .u32 e1, .int .u32 e2, .int .u32 e3, .int .u32 e4] _ rfl).below hb1 (by simp))
  have B1 := Lib.hid (((Below.refl _ _).alloc (Nat.le_refl _) _).trans (hb1.mono (show w.heap.size ≤ _ by simp)))
  clear hb1
  go_wp2_with fail
  refine (RI.out _).mono ?_
  rintro e w2 ⟨rfl, hb2⟩
  have Q2 := Lib.hid (Q1.out.below hb2 Q1.out.lt)
  have B2 := Lib.hid (B1.out.trans (hb2.mono B1.out.size))
  have q4 : w2.cell? ⟨w.heap.size, 4, none⟩ = some (.int .u32 e4) := Q2.out.cell 4
  have OB := Lib.hid (OA.out.below B2.out)
  clear hb2 Q1 B1 OA
  cases bk <;> cases bm <;> first | (exact absurd hbb (by decide)) | skip
  all_goals
    clear hbb
    go_wp2_with fail
    go_loop [5] (fun i => ∃ j : Nat, j ≤ n ∧ i = .int .i64 j ∧ Hid (∀ t, t < j → (f t).m ≤ 2000)) (fun i => n - (intOf i).toNat)
    case atStart => exact ⟨0, Nat.zero_le _, rfl, fun t ht => absurd ht (Nat.not_lt_zero _)⟩
    case round =>
      obtain ⟨j, hj, rfl, HJ⟩ := hrel
      by_cases hlt : j < n
      · obtain ⟨b, off, rfl, hb, hcell⟩ := OB.out.1 (by omega)
        obtain ⟨_, _, _, c3⟩ := hcell j hlt
        clear hcell
        by_cases hm : 2000 < (f j).m
        · have dm : decide ((2000 : Int) < ((f j).m : Int)) = true := by simp; omega
          generalize (f j).m = mm at *
          clear hm
          go_wp2_with fail
          go_ret
          exact ⟨false, rfl, fun h => absurd h (by decide), B2.out⟩
        · have dm : decide ((2000 : Int) < ((f j).m : Int)) = false := by simp; omega
          have HJ2 : Hid (∀ t, t < j + 1 → (f t).m ≤ 2000) := fun t ht => by
            rcases Nat.lt_or_ge t j with h | h
            · exact HJ.out t h
            · obtain rfl : t = j := by omega
              omega
          clear hm HJ
          generalize (f j).m = mm at *
          go_wp2_with fail
          go_round
          case rel => exact ⟨j + 1, by omega, by go_num, HJ2⟩
          case measure => simp [intOf]; omega
      · obtain rfl : j = n := by omega
        go_wp2_with fail
        go_ret
        exact ⟨true, rfl, fun _ => HJ.out, B2.out⟩

set_option maxHeartbeats 8000000 in
set_option maxRecDepth 100000 in
theorem few_bad (e0 e1 e2 e3 e4 : Int) (A : Option Addr) (n c : Nat) (w : World) (u0 : U32 e0) (u1 : U32 e1) (u2 : U32 e2) (u3 : U32 e3) (u4 : U32 e4) (bk bm bn : Bool) (hbk : okEnds e0 e1 e2 e3 e4 = bk) (hbm : decide (4096 < e4) = bm) (hbn : decide ((40 : Int) < (n : Int)) = bn) (hbb : (bk && bm || bn) = true) :
    Calls Try.prog 8 #[endsV e0 e1 e2 e3 e4, .slice A n c] w fun e w' => e = .returned (.bool false) ∧ Below w.heap.size w w' := by
  have hR := fun w => refright_any e0 e1 e2 e3 e4 w u0 u1 u2 u3 u4
  have EN := Lib.hid (fun w => lawEnds_any e0 e1 e2 e3 e4 w)
  simp only [hbk] at hR
  have RI := Lib.hid hR
  clear hR hbk u0 u1 u2 u3 u4
  unfold endsV at *
  go_enter Try.func8, Try.ntmps8
  go_wp2_with fail
  refine (EN.out _).mono ?_
  rintro e w1 ⟨rfl, hb1⟩
  have Q1 := Lib.hid ((Whole.made w 24 #[.int .u32 e0, .int .u32 e1, .int .u32 e2, .int .u32 e3, .int .u32 e4] _ rfl).below hb1 (by simp))
  have B1 := Lib.hid (((Below.refl _ _).alloc (Nat.le_refl _) _).trans (hb1.mono (show w.heap.size ≤ _ by simp)))
  clear hb1
  go_wp2_with fail
  refine (RI.out _).mono ?_
  rintro e w2 ⟨rfl, hb2⟩
  have Q2 := Lib.hid (Q1.out.below hb2 Q1.out.lt)
  have B2 := Lib.hid (B1.out.trans (hb2.mono B1.out.size))
  have q4 : w2.cell? ⟨w.heap.size, 4, none⟩ = some (.int .u32 e4) := Q2.out.cell 4
  clear hb2 Q1 B1
  cases bk <;> cases bm <;> cases bn <;> first | (exact absurd hbb (by decide)) | skip
  all_goals
    clear hbb
    go_wp2_with fail
    go_ret
    exact ⟨rfl, B2.out⟩

theorem few_any (e0 e1 e2 e3 e4 : Int) (A : Option Addr) (n c : Nat) (f : Nat → OpR) (w : World) (u0 : U32 e0) (u1 : U32 e1) (u2 : U32 e2) (u3 : U32 e3) (u4 : U32 e4) (hO : OpsAt w A n f) :
    Calls Try.prog 8 #[endsV e0 e1 e2 e3 e4, .slice A n c] w fun e w' => ∃ b : Bool, e = .returned (.bool b) ∧ (b = true → FewOk e0 e1 e2 e3 e4 n f) ∧ Below w.heap.size w w' := by
  by_cases hn : n ≤ 40
  · cases hb : (okEnds e0 e1 e2 e3 e4 && decide (4096 < e4)) with
    | false =>
      refine (few_loop e0 e1 e2 e3 e4 A n c f w u0 u1 u2 u3 u4 hO _ _ rfl rfl hb hn).mono ?_
      rintro e w' ⟨b, rfl, h, hB⟩
      refine ⟨b, rfl, fun hb1 => ⟨fun hh => ?_, hn, h hb1⟩, hB⟩
      rw [hh.1, decide_eq_true hh.2] at hb
      exact absurd hb (by decide)
    | true =>
      refine (few_bad e0 e1 e2 e3 e4 A n c w u0 u1 u2 u3 u4 _ _ _ rfl rfl rfl (by rw [hb]; rfl)).mono ?_
      rintro e w' ⟨rfl, hB⟩
      exact ⟨false, rfl, fun h => absurd h (by decide), hB⟩
  · refine (few_bad e0 e1 e2 e3 e4 A n c w u0 u1 u2 u3 u4 _ _ _ rfl rfl rfl (by rw [decide_eq_true (by omega : (40 : Int) < (n : Int)), Bool.or_true])).mono ?_
    rintro e w' ⟨rfl, hB⟩
    exact ⟨false, rfl, fun h => absurd h (by decide), hB⟩

theorem keepS_call {x y : World} {p : Nat} {v0 v1 v2 v3 v4 : Value} (h : x.cell? ⟨p, 0, none⟩ = some v0 ∧ x.cell? ⟨p, 1, none⟩ = some v1 ∧ x.cell? ⟨p, 2, none⟩ = some v2 ∧ x.cell? ⟨p, 3, none⟩ = some v3 ∧ x.cell? ⟨p, 4, none⟩ = some v4) (hb : Below x.heap.size x y) :
    y.cell? ⟨p, 0, none⟩ = some v0 ∧ y.cell? ⟨p, 1, none⟩ = some v1 ∧ y.cell? ⟨p, 2, none⟩ = some v2 ∧ y.cell? ⟨p, 3, none⟩ = some v3 ∧ y.cell? ⟨p, 4, none⟩ = some v4 := keepL h hb

theorem below_step {w x y : World} (h : Below w.heap.size w x) (hk : Below x.heap.size x y) : Below w.heap.size w y := h.trans (hk.mono h.size)

set_option maxHeartbeats 8000000 in
set_option maxRecDepth 100000 in
theorem same_any3 (p h h2 n : Nat) (e0 e1 e2 e3 e4 : Int) (ws : List Int) (w : World) (hm : Whole w p 68 (memCells e0 e1 e2 e3 e4 h n)) (hw : Whole w h 22 (words ws)) (hw2 : Whole w h2 22 (words ws)) (hn : ws.length = n) (hn2 : n ≤ 1000000) (hl : e4 = 4 * n) (hws : ∀ z ∈ ws, U32 z) :
    Calls Try.prog 29 #[.pointer (some ⟨p, 0, none⟩), .agg (memCells e0 e1 e2 e3 e4 h2 n)] w fun e w' => e = .returned (.bool true) ∧ Below w.heap.size w w' := by
  have LY := Lib.hid (fun w hm => layout_any p h n e0 e1 e2 e3 e4 w hm)
  have EN := Lib.hid (fun w => lawEnds_any e0 e1 e2 e3 e4 w)
  have LD := Lib.hid (fun (at_ : Int) (w : World) ha hc hs hw => load_any p h n at_ e4 ws w ha hc hs hw hn (by omega) hws)
  have HWS := Lib.hid hws
  have EQ5 : ∀ w, (Op.equalIn 10000 29 (.agg #[.int .u32 e0, .int .u32 e1, .int .u32 e2, .int .u32 e3, .int .u32 e4]) (.agg #[.int .u32 e0, .int .u32 e1, .int .u32 e2, .int .u32 e3, .int .u32 e4])).run Try.prog w = .ok true w := fun w => run_equalIn_arr5 (d := 9998) Try.underlying29 Try.underlying22 (by kernel_rfl) e0 e1 e2 e3 e4 w
  have Q0 := Lib.hid (Whole.made w 32 #[.int .u32 e0, .int .u32 e1, .int .u32 e2, .int .u32 e3, .int .u32 e4, .slice (some ⟨h2, 0, none⟩) n n] w.heap.size rfl)
  have M0 := Lib.hid (hm.alloc (.cells #[.int .u32 e0, .int .u32 e1, .int .u32 e2, .int .u32 e3, .int .u32 e4, .slice (some ⟨h2, 0, none⟩) n n] 32))
  have H0 := Lib.hid (hw.alloc (.cells #[.int .u32 e0, .int .u32 e1, .int .u32 e2, .int .u32 e3, .int .u32 e4, .slice (some ⟨h2, 0, none⟩) n n] 32))
  have K0 := Lib.hid (hw2.alloc (.cells #[.int .u32 e0, .int .u32 e1, .int .u32 e2, .int .u32 e3, .int .u32 e4, .slice (some ⟨h2, 0, none⟩) n n] 32))
  have B0 := Lib.hid ((Below.refl w.heap.size w).alloc (Nat.le_refl _) (.cells #[.int .u32 e0, .int .u32 e1, .int .u32 e2, .int .u32 e3, .int .u32 e4, .slice (some ⟨h2, 0, none⟩) n n] 32))
  have HL := Lib.hid hl
  clear hm hw hw2 hws hl
  unfold memCells at *
  unfold endsV at *
  go_enter Try.func29, Try.ntmps29
  go_wp2_with fail
  generalize w.alloc (.cells #[.int .u32 e0, .int .u32 e1, .int .u32 e2, .int .u32 e3, .int .u32 e4, .slice (some ⟨h2, 0, none⟩) n n] 32) = w1 at *
  have LS : w1.cell? ⟨w.heap.size, 0, none⟩ = some (.int .u32 e0) ∧ w1.cell? ⟨w.heap.size, 1, none⟩ = some (.int .u32 e1) ∧ w1.cell? ⟨w.heap.size, 2, none⟩ = some (.int .u32 e2) ∧ w1.cell? ⟨w.heap.size, 3, none⟩ = some (.int .u32 e3) ∧ w1.cell? ⟨w.heap.size, 4, none⟩ = some (.int .u32 e4) := ⟨Q0.out.cell 0, Q0.out.cell 1, Q0.out.cell 2, Q0.out.cell 3, Q0.out.cell 4⟩
  go_region_held3 (fun y => y.cell? ⟨w.heap.size, 0, none⟩ = some (.int .u32 e0) ∧ y.cell? ⟨w.heap.size, 1, none⟩ = some (.int .u32 e1) ∧ y.cell? ⟨w.heap.size, 2, none⟩ = some (.int .u32 e2) ∧ y.cell? ⟨w.heap.size, 3, none⟩ = some (.int .u32 e3) ∧ y.cell? ⟨w.heap.size, 4, none⟩ = some (.int .u32 e4))
    (first
      | with_reducible assumption
      | with_reducible exact keepL (by assumption) (Below.refl _ _).drew
      | with_reducible exact keepL (by assumption) hbm
      | with_reducible exact keepL (by assumption) hbk)
    (first
      | (go_at_call 35; refine (LY.out _ M0.out.drew).mono ?_; rintro e y1 ⟨rfl, hbm⟩)
      | (go_at_call 23; refine (EN.out _).mono ?_; rintro e y2 ⟨rfl, hbk⟩))
  rename _ ∧ _ => hHl
  clear hHl LS
  have Q2 := Lib.hid ((Whole.below (w := w1.drew) Q0.out hbm Q0.out.lt).below hbk (Nat.lt_of_lt_of_le Q0.out.lt hbm.size))
  have M2 := Lib.hid ((Whole.below (w := w1.drew) M0.out hbm M0.out.lt).below hbk (Nat.lt_of_lt_of_le M0.out.lt hbm.size))
  have H2 := Lib.hid ((Whole.below (w := w1.drew) H0.out hbm H0.out.lt).below hbk (Nat.lt_of_lt_of_le H0.out.lt hbm.size))
  have K2 := Lib.hid ((Whole.below (w := w1.drew) K0.out hbm K0.out.lt).below hbk (Nat.lt_of_lt_of_le K0.out.lt hbm.size))
  have B2 := Lib.hid (below_step (below_step B0.out.drew hbm) hbk)
  clear hbm hbk Q0 M0 H0 K0 B0
  have q5 : y2.cell? ⟨w.heap.size, 5, none⟩ = some (.slice (some ⟨h2, 0, none⟩) n n) := Q2.out.cell 5
  go_wp2_with fail
  go_loop [5] (fun i => ∃ j : Nat, j ≤ n ∧ i = .int .i64 j) (fun i => n - (intOf i).toNat)
  case atStart => exact ⟨0, Nat.zero_le _, rfl⟩
  case round =>
    obtain ⟨j, hj, rfl⟩ := hrel
    by_cases hlt : j < n
    · have hl := HL.out
      have hld := LD.out (4 * j) y2 ⟨by omega, by omega⟩ (M2.out.cell 4) (M2.out.cell 5) H2.out
      rw [show readVal (4 * (j : Int)) e4 ws = ws.getD j 0 by
        unfold readVal
        rw [checkRes_ok (by omega) (by omega), if_pos rfl]
        congr 1
        omega, checkRes_ok (by omega : (4 * (j : Int)) % 4 = 0) (by omega : 4 * (j : Int) < e4)] at hld
      have c0 := K2.out.word (k := j) (by omega)
      obtain ⟨v0, v1⟩ := wordOfs HWS.out j
      generalize ws.getD j 0 = v at *
      have LJ := Lib.hid hld
      clear hld hl
      go_wp2_with fail
      refine LJ.out.mono ?_
      rintro e w' ⟨rfl, rfl⟩
      go_wp2_with fail
      go_round
      case rel => exact ⟨j + 1, by omega, by go_num⟩
      case measure => simp [intOf]; omega
    · obtain rfl : j = n := by omega
      go_wp2_with fail
      go_ret
      exact ⟨rfl, B2.out⟩

set_option maxHeartbeats 8000000 in
set_option maxRecDepth 100000 in
theorem awake3_any (w : World) :
    Calls Try.prog 7 #[] w fun e w' => e = .returned (.bool true) ∧ Below w.heap.size w w' := by
  have NW := Lib.hid (fun w => new_ok 8 16 32 64 128 32 w ⟨by omega, by omega⟩ ⟨by omega, by omega⟩ ⟨by omega, by omega⟩ ⟨by omega, by omega⟩ ⟨by omega, by omega⟩ (by decide) (by decide) (by decide))
  have ST := Lib.hid (fun p h w h1 h4 h5 hw => store_any p h 32 12 1 16 128 (List.replicate 32 0) w ⟨by omega, by omega⟩ ⟨by omega, by omega⟩ h1 h4 h5 hw (by simp) (by decide))
  have PT := Lib.hid (fun p h w hm => part_any p h 32 8 16 32 64 128 64 w hm)
  have R1 : storeRes 12 16 128 = 32 := by decide
  have R2 : partOf 8 16 32 64 128 64 = 4 := by decide
  unfold StorePost at ST
  unfold MadePost at NW
  rw [R1] at ST
  rw [R2] at PT
  clear R1 R2
  unfold memCells endsV at *
  go_enter Try.func7, Try.ntmps7
  go_wp2_with fail
  refine (NW.out _).mono ?_
  rintro e w1 ⟨p, h, rfl, hM, hW, g1, g2, hne, hB⟩
  have M1 := Lib.hid hM
  have W1 := Lib.hid hW
  have B1 := Lib.hid hB
  have hs : w.heap.size ≤ w1.heap.size := hB.size
  clear hM hW hB
  go_wp2_with fail
  refine (ST.out p h _ (M1.out.cell 1) (M1.out.cell 4) (M1.out.cell 5) W1.out).mono ?_
  rintro e w2 ⟨rfl, hW2, ho⟩
  have M2 := Lib.hid (M1.out.only hne ho)
  have B2 := Lib.hid (B1.out.trans (ho.below g1 hs))
  clear hW2 ho
  go_wp2_with fail
  refine (PT.out p h _ M2.out).mono ?_
  rintro e w3 ⟨rfl, rfl⟩
  go_wp2_with fail
  go_ret
  exact ⟨rfl, B2.out⟩

end Go.Proofs.Ytojjfpplhgfpfaa
