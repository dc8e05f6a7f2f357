/- pascalinelaw14.SymfileChecks returns true for every file: whether any export of it, its imports and the file itself may be, and what is wrong with them, is what the document's answer says (files of more than 80 imports or 60 exports, with a name of more than 200 bytes or an export of more than 40 parameters are let go, as the statement says); the page's example holds; its argument reads behind the call as before. Condition: none. -/
import Derived.Test.YthmjniedfiabhaaRows
import Derived.Test.YthmjniedfiabhaaLift
import Derived.Test.YthmjniedfiabhaaSymN
import Derived.SizedLaws
namespace Go.Proofs.Ythmjniedfiabhaa.lawSymfileChecks
open Go.ChangeShapes Go.WideShapes Go.ChangeAt Go.RowKit
set_option linter.unusedVariables false
theorem sm_ex {es : List Exx} {md : ByteArray} {im : List Im} (h : smF md im es) (hk : ∀ e ∈ es, e.1.nm.size ≤ 140737488355328 ∧ e.1.ps.length * 16 ≤ 140737488355328 ∧ ExOk e.1) : FlSm md es :=
  ⟨h.1.2.2, h.1.2.1, fun x hx => ⟨(h.2 x hx).1, by have := (h.2 x hx).2; omega, (hk x hx).2.2⟩⟩

set_option maxHeartbeats 32000000 in
set_option maxRecDepth 100000 in
theorem walk (W : World) (md : ByteArray) (key : Int) (Ai : Option Addr) (im : List Im) (ci : Nat) (Ae : Option Addr) (es : List Exx) (ce : Nat) (hF : FlIn W md key Ai im ci Ae es ce) :
    Calls Try.prog 3 #[.agg #[.string md, .int .u32 key, .slice Ai im.length ci, .slice Ae es.length ce]] W fun e w' => e = .returned (.bool true) ∧ Below W.heap.size W w' := by
  have B0 := Lib.hid ((Below.refl W.heap.size W).alloc (Nat.le_refl _) (.cells #[.string md, .int .u32 key, .slice Ai im.length ci, .slice Ae es.length ce] flT))
  have X0 := Lib.hid (Whole.made W flT #[.string md, .int .u32 key, .slice Ai im.length ci, .slice Ae es.length ce] _ rfl)
  have HI := Lib.hid hF.ims
  have HE := Lib.hid hF.exs
  have hin := hF.imn
  have hen := hF.exn
  have hmd := hF.md
  have HIO := Lib.hid (fun x hx => (hF.imo x hx).1)
  have HEO := Lib.hid (fun e he => hF.exo e he)
  have AW := Lib.hid (awake14_any (W.alloc (.cells #[.string md, .int .u32 key, .slice Ai im.length ci, .slice Ae es.length ce] flT)))
  have SL := Lib.hid (fun w (hb : Below W.heap.size W w) => small14_any md key Ai im ci Ae es ce W.heap.size w (HE.out.below hb).toR (by omega) (by omega) hmd (fun e he => ⟨(HEO.out e he).1, (HEO.out e he).2.1⟩))
  have SX := Lib.hid (fun (h : smF md im es) => sm_ex h HEO.out)
  clear hF
  by_cases hs : smF md im es
  case neg =>
    rw [decide_eq_false hs] at SL
    clear hs SX
    go_enter Try.func3, Try.ntmps3
    go_wp2_with fail
    refine AW.out.mono ?_
    rintro e w1 ⟨rfl, hb1⟩
    have B1 := Lib.hid (B0.out.trans (hb1.mono B0.out.size))
    have X1 := Lib.hid (X0.out.below hb1 X0.out.lt)
    have S1 := Lib.hid (SL.out w1 B1.out)
    have q0 : w1.cell? ⟨W.heap.size, 0, none⟩ = some (.string md) := X1.out.cell 0
    have q1 : w1.cell? ⟨W.heap.size, 1, none⟩ = some (.int .u32 key) := X1.out.cell 1
    have q2 : w1.cell? ⟨W.heap.size, 2, none⟩ = some (.slice Ai im.length ci) := X1.out.cell 2
    have q3 : w1.cell? ⟨W.heap.size, 3, none⟩ = some (.slice Ae es.length ce) := X1.out.cell 3
    clear hb1 AW SL
    go_wp2_with fail
    refine S1.out.mono ?_
    rintro e w2 ⟨rfl, hb2⟩
    have B2 := Lib.hid (B1.out.trans (hb2.mono B1.out.size))
    clear hb2 S1
    go_wp2_with fail
    go_ret
    exact ⟨rfl, B2.out⟩
  have SM := Lib.hid (SX.out hs)
  have SE := Lib.hid (fun x hx => hs.2 x hx)
  rw [decide_eq_true hs] at SL
  clear hs SX
  go_enter Try.func3, Try.ntmps3
  go_wp2_with fail
  refine AW.out.mono ?_
  rintro e w1 ⟨rfl, hb1⟩
  have B1 := Lib.hid (B0.out.trans (hb1.mono B0.out.size))
  have X1 := Lib.hid (X0.out.below hb1 X0.out.lt)
  have S1 := Lib.hid (SL.out w1 B1.out)
  have q0 : w1.cell? ⟨W.heap.size, 0, none⟩ = some (.string md) := X1.out.cell 0
  have q1 : w1.cell? ⟨W.heap.size, 1, none⟩ = some (.int .u32 key) := X1.out.cell 1
  have q2 : w1.cell? ⟨W.heap.size, 2, none⟩ = some (.slice Ai im.length ci) := X1.out.cell 2
  have q3 : w1.cell? ⟨W.heap.size, 3, none⟩ = some (.slice Ae es.length ce) := X1.out.cell 3
  clear hb1 AW SL B0 X0
  go_wp2_with fail
  refine S1.out.mono ?_
  rintro e w2 ⟨rfl, hb2⟩
  have B2 := Lib.hid (B1.out.trans (hb2.mono B1.out.size))
  have X2 := Lib.hid (X1.out.below hb2 X1.out.lt)
  clear hb2 S1 q0 q1 q2 q3 B1 X1
  go_wp2_with fail
  generalize hq : W.heap.size = q
  have HQ := Lib.hid hq
  rw [hq] at X2
  clear hq
  generalize w2 = V at *
  go_loopw [3] (fun i wr => ∃ t : Nat, t ≤ es.length ∧ i = .int .i64 t ∧ Below V.heap.size V wr) (fun i _ => es.length - (intOf i).toNat)
  case atStart => exact ⟨0, Nat.zero_le _, rfl, Below.refl _ _⟩
  case round =>
    obtain ⟨t, ht, rfl, hb⟩ := hrel
    have HB := Lib.hid hb
    have q3 : wr.cell? ⟨q, 3, none⟩ = some (.slice Ae es.length ce) := (X2.out.below hb X2.out.lt).cell 3
    by_cases hlt : t < es.length
    · have hI : (t : Int) < es.length := by omega
      have hx := HEO.out _ (getD_mem zEx hlt)
      obtain ⟨b, off, rfl, hbl, nm, kd, ty, vl, ps, Ap, cp, hX, hpar, hc⟩ := (HE.out.toR.below B2.out).at hlt
      rw [hX] at hx
      have hx1 : nm.size ≤ 140737488355328 := hx.1
      have hx2 : ps.length * 16 ≤ 140737488355328 := hx.2.1
      have HP := Lib.hid hpar
      have HC := Lib.hid hc
      clear hx hX hpar hc hb
      go_wp2_with fail
      clear q3
      have BV := Lib.hid (fun y (hy : Below V.heap.size V y) => B2.out.trans (hy.mono B2.out.size))
      have C := Lib.hid (fun y (hy : Below V.heap.size V y) => show (fun y => Below V.heap.size V y ∧ y.cell? ⟨q, 3, none⟩ = some (.slice (some ⟨b, off, none⟩) es.length ce) ∧ y.cell? ⟨b, off + t * 5, none⟩ = some (.string nm) ∧ y.cell? ⟨b, off + t * 5 + 1, none⟩ = some (.int .i64 kd) ∧ y.cell? ⟨b, off + t * 5 + 2, none⟩ = some (.int .i64 ty) ∧ y.cell? ⟨b, off + t * 5 + 3, none⟩ = some (.int .i32 vl) ∧ y.cell? ⟨b, off + t * 5 + 4, none⟩ = some (.slice Ap ps.length cp)) y from ⟨hy, (X2.out.below hy X2.out.lt).cell 3, cell_later (HC.out 0 _ rfl) hy, cell_later (HC.out 1 _ rfl) hy, cell_later (HC.out 2 _ rfl) hy, cell_later (HC.out 3 _ rfl) hy, cell_later (HC.out 4 _ rfl) hy⟩)
      have L0 := C.out wr.drew HB.out.drew
      have MA := Lib.hid (show ∀ y, (fun y => Below V.heap.size V y ∧ y.cell? ⟨q, 3, none⟩ = some (.slice (some ⟨b, off, none⟩) es.length ce) ∧ y.cell? ⟨b, off + t * 5, none⟩ = some (.string nm) ∧ y.cell? ⟨b, off + t * 5 + 1, none⟩ = some (.int .i64 kd) ∧ y.cell? ⟨b, off + t * 5 + 2, none⟩ = some (.int .i64 ty) ∧ y.cell? ⟨b, off + t * 5 + 3, none⟩ = some (.int .i32 vl) ∧ y.cell? ⟨b, off + t * 5 + 4, none⟩ = some (.slice Ap ps.length cp)) y → Calls Try.prog 9 #[.agg #[.string nm, .int .i64 kd, .int .i64 ty, .int .i32 vl, .slice Ap ps.length cp]] y (fun e y' => e = .returned (.int .i64 (mayP ⟨nm, kd, ty, vl, ps⟩)) ∧ (fun y => Below V.heap.size V y ∧ y.cell? ⟨q, 3, none⟩ = some (.slice (some ⟨b, off, none⟩) es.length ce) ∧ y.cell? ⟨b, off + t * 5, none⟩ = some (.string nm) ∧ y.cell? ⟨b, off + t * 5 + 1, none⟩ = some (.int .i64 kd) ∧ y.cell? ⟨b, off + t * 5 + 2, none⟩ = some (.int .i64 ty) ∧ y.cell? ⟨b, off + t * 5 + 3, none⟩ = some (.int .i32 vl) ∧ y.cell? ⟨b, off + t * 5 + 4, none⟩ = some (.slice Ap ps.length cp)) y') from fun y hy => (may_any nm kd ty vl ps Ap cp _ y (HP.out.below hy.1) (by omega) hx1).mono (fun e y' h => ⟨h.1, C.out y' (hy.1.trans (h.2.mono hy.1.size))⟩))
      have RM := Lib.hid (show ∀ y, (fun y => Below V.heap.size V y ∧ y.cell? ⟨q, 3, none⟩ = some (.slice (some ⟨b, off, none⟩) es.length ce) ∧ y.cell? ⟨b, off + t * 5, none⟩ = some (.string nm) ∧ y.cell? ⟨b, off + t * 5 + 1, none⟩ = some (.int .i64 kd) ∧ y.cell? ⟨b, off + t * 5 + 2, none⟩ = some (.int .i64 ty) ∧ y.cell? ⟨b, off + t * 5 + 3, none⟩ = some (.int .i32 vl) ∧ y.cell? ⟨b, off + t * 5 + 4, none⟩ = some (.slice Ap ps.length cp)) y → Calls Try.prog 10 #[.agg #[.string nm, .int .i64 kd, .int .i64 ty, .int .i32 vl, .slice Ap ps.length cp]] y (fun e y' => e = .returned (.int .i64 (mayP ⟨nm, kd, ty, vl, ps⟩)) ∧ (fun y => Below V.heap.size V y ∧ y.cell? ⟨q, 3, none⟩ = some (.slice (some ⟨b, off, none⟩) es.length ce) ∧ y.cell? ⟨b, off + t * 5, none⟩ = some (.string nm) ∧ y.cell? ⟨b, off + t * 5 + 1, none⟩ = some (.int .i64 kd) ∧ y.cell? ⟨b, off + t * 5 + 2, none⟩ = some (.int .i64 ty) ∧ y.cell? ⟨b, off + t * 5 + 3, none⟩ = some (.int .i32 vl) ∧ y.cell? ⟨b, off + t * 5 + 4, none⟩ = some (.slice Ap ps.length cp)) y') from fun y hy => (refmay_any nm kd ty vl ps Ap cp _ y (HP.out.below hy.1) (by omega) hx1).mono (fun e y' h => ⟨h.1, C.out y' (hy.1.trans (h.2.mono hy.1.size))⟩))
      have NA := Lib.hid (show ∀ y, (fun y => Below V.heap.size V y ∧ y.cell? ⟨q, 3, none⟩ = some (.slice (some ⟨b, off, none⟩) es.length ce) ∧ y.cell? ⟨b, off + t * 5, none⟩ = some (.string nm) ∧ y.cell? ⟨b, off + t * 5 + 1, none⟩ = some (.int .i64 kd) ∧ y.cell? ⟨b, off + t * 5 + 2, none⟩ = some (.int .i64 ty) ∧ y.cell? ⟨b, off + t * 5 + 3, none⟩ = some (.int .i32 vl) ∧ y.cell? ⟨b, off + t * 5 + 4, none⟩ = some (.slice Ap ps.length cp)) y → Calls Try.prog 11 #[.string nm] y (fun e y' => e = .returned (.bool (decide (nameOk nm))) ∧ (fun y => Below V.heap.size V y ∧ y.cell? ⟨q, 3, none⟩ = some (.slice (some ⟨b, off, none⟩) es.length ce) ∧ y.cell? ⟨b, off + t * 5, none⟩ = some (.string nm) ∧ y.cell? ⟨b, off + t * 5 + 1, none⟩ = some (.int .i64 kd) ∧ y.cell? ⟨b, off + t * 5 + 2, none⟩ = some (.int .i64 ty) ∧ y.cell? ⟨b, off + t * 5 + 3, none⟩ = some (.int .i32 vl) ∧ y.cell? ⟨b, off + t * 5 + 4, none⟩ = some (.slice Ap ps.length cp)) y') from fun y hy => (name_any nm y hx1).mono (fun e y' h => ⟨h.1, h.2 ▸ hy⟩))
      have RN := Lib.hid (show ∀ y, (fun y => Below V.heap.size V y ∧ y.cell? ⟨q, 3, none⟩ = some (.slice (some ⟨b, off, none⟩) es.length ce) ∧ y.cell? ⟨b, off + t * 5, none⟩ = some (.string nm) ∧ y.cell? ⟨b, off + t * 5 + 1, none⟩ = some (.int .i64 kd) ∧ y.cell? ⟨b, off + t * 5 + 2, none⟩ = some (.int .i64 ty) ∧ y.cell? ⟨b, off + t * 5 + 3, none⟩ = some (.int .i32 vl) ∧ y.cell? ⟨b, off + t * 5 + 4, none⟩ = some (.slice Ap ps.length cp)) y → Calls Try.prog 12 #[.string nm] y (fun e y' => e = .returned (.bool (decide (nameOk nm))) ∧ (fun y => Below V.heap.size V y ∧ y.cell? ⟨q, 3, none⟩ = some (.slice (some ⟨b, off, none⟩) es.length ce) ∧ y.cell? ⟨b, off + t * 5, none⟩ = some (.string nm) ∧ y.cell? ⟨b, off + t * 5 + 1, none⟩ = some (.int .i64 kd) ∧ y.cell? ⟨b, off + t * 5 + 2, none⟩ = some (.int .i64 ty) ∧ y.cell? ⟨b, off + t * 5 + 3, none⟩ = some (.int .i32 vl) ∧ y.cell? ⟨b, off + t * 5 + 4, none⟩ = some (.slice Ap ps.length cp)) y') from fun y hy => (refname_any nm y hx1).mono (fun e y' h => ⟨h.1, h.2 ▸ hy⟩))
      generalize mayP ⟨nm, kd, ty, vl, ps⟩ = m at *
      generalize decide (nameOk nm) = nb at *
      have dm : (m != m) = false := by simp
      have dn : (nb != nb) = false := by simp
      clear HP HC
      go_region_held3 (fun y => Below V.heap.size V y ∧ y.cell? ⟨q, 3, none⟩ = some (.slice (some ⟨b, off, none⟩) es.length ce) ∧ y.cell? ⟨b, off + t * 5, none⟩ = some (.string nm) ∧ y.cell? ⟨b, off + t * 5 + 1, none⟩ = some (.int .i64 kd) ∧ y.cell? ⟨b, off + t * 5 + 2, none⟩ = some (.int .i64 ty) ∧ y.cell? ⟨b, off + t * 5 + 3, none⟩ = some (.int .i32 vl) ∧ y.cell? ⟨b, off + t * 5 + 4, none⟩ = some (.slice Ap ps.length cp))
        (first
          | with_reducible assumption
          | with_reducible exact L0
          | fail)
        (first
          | (go_at_call 9; refine (MA.out _ (by assumption)).mono ?_; rintro e y0 ⟨rfl, hs0⟩)
          | (go_at_call 10; refine (RM.out _ (by assumption)).mono ?_; rintro e y1 ⟨rfl, hs1⟩)
          | (go_at_call 11; refine (NA.out _ (by assumption)).mono ?_; rintro e y2 ⟨rfl, hs2⟩)
          | (go_at_call 12; refine (RN.out _ (by assumption)).mono ?_; rintro e y3 ⟨rfl, hs3⟩))
      all_goals
        rename_i hH
        have BH := Lib.hid hH.1
        clear hH L0 C MA RM NA RN
        go_wp2_with fail
        go_roundw
        case rel => exact ⟨t + 1, by omega, by go_num, BH.out⟩
        case measure => simp [intOf]; omega
    · have hI : ¬ (t : Int) < es.length := by omega
      obtain rfl : t = es.length := by omega
      clear hb
      go_wp2_with fail
      clear q3
      have BV := Lib.hid (fun y (hy : Below V.heap.size V y) => B2.out.trans (hy.mono B2.out.size))
      have C := Lib.hid (fun y (hy : Below V.heap.size V y) => show (fun y => Below V.heap.size V y ∧ y.cell? ⟨q, 0, none⟩ = some (.string md) ∧ y.cell? ⟨q, 1, none⟩ = some (.int .u32 key) ∧ y.cell? ⟨q, 2, none⟩ = some (.slice Ai im.length ci) ∧ y.cell? ⟨q, 3, none⟩ = some (.slice Ae es.length ce)) y from ⟨hy, (X2.out.below hy X2.out.lt).cell 0, (X2.out.below hy X2.out.lt).cell 1, (X2.out.below hy X2.out.lt).cell 2, (X2.out.below hy X2.out.lt).cell 3⟩)
      have L0 := C.out wr.drew HB.out.drew
      have CA := Lib.hid (show ∀ y, (fun y => Below V.heap.size V y ∧ y.cell? ⟨q, 0, none⟩ = some (.string md) ∧ y.cell? ⟨q, 1, none⟩ = some (.int .u32 key) ∧ y.cell? ⟨q, 2, none⟩ = some (.slice Ai im.length ci) ∧ y.cell? ⟨q, 3, none⟩ = some (.slice Ae es.length ce)) y → Calls Try.prog 13 #[.agg #[.string md, .int .u32 key, .slice Ai im.length ci, .slice Ae es.length ce]] y (fun e y' => e = .returned (.int .i64 (checkP ⟨md, key, im, es.map (·.1)⟩)) ∧ (fun y => Below V.heap.size V y ∧ y.cell? ⟨q, 0, none⟩ = some (.string md) ∧ y.cell? ⟨q, 1, none⟩ = some (.int .u32 key) ∧ y.cell? ⟨q, 2, none⟩ = some (.slice Ai im.length ci) ∧ y.cell? ⟨q, 3, none⟩ = some (.slice Ae es.length ce)) y') from fun y hy => (check_any md key Ai im ci Ae es ce _ _ y (HI.out.below (BV.out y hy.1)) (HE.out.toR.below (BV.out y hy.1)) SM.out (by omega) HIO.out).mono (fun e y' h => ⟨h.1, C.out y' (hy.1.trans (h.2.mono hy.1.size))⟩))
      have CR := Lib.hid (show ∀ y, (fun y => Below V.heap.size V y ∧ y.cell? ⟨q, 0, none⟩ = some (.string md) ∧ y.cell? ⟨q, 1, none⟩ = some (.int .u32 key) ∧ y.cell? ⟨q, 2, none⟩ = some (.slice Ai im.length ci) ∧ y.cell? ⟨q, 3, none⟩ = some (.slice Ae es.length ce)) y → Calls Try.prog 14 #[.agg #[.string md, .int .u32 key, .slice Ai im.length ci, .slice Ae es.length ce]] y (fun e y' => e = .returned (.int .i64 (checkP ⟨md, key, im, es.map (·.1)⟩)) ∧ (fun y => Below V.heap.size V y ∧ y.cell? ⟨q, 0, none⟩ = some (.string md) ∧ y.cell? ⟨q, 1, none⟩ = some (.int .u32 key) ∧ y.cell? ⟨q, 2, none⟩ = some (.slice Ai im.length ci) ∧ y.cell? ⟨q, 3, none⟩ = some (.slice Ae es.length ce)) y') from fun y hy => (refcheck_any md key Ai im ci Ae es ce _ _ y (HI.out.below (BV.out y hy.1)) (HE.out.toR.below (BV.out y hy.1)) SM.out (by omega) HIO.out).mono (fun e y' h => ⟨h.1, C.out y' (hy.1.trans (h.2.mono hy.1.size))⟩))
      have RF := Lib.hid (show ∀ y, (fun y => Below V.heap.size V y ∧ y.cell? ⟨q, 0, none⟩ = some (.string md) ∧ y.cell? ⟨q, 1, none⟩ = some (.int .u32 key) ∧ y.cell? ⟨q, 2, none⟩ = some (.slice Ai im.length ci) ∧ y.cell? ⟨q, 3, none⟩ = some (.slice Ae es.length ce)) y → Calls Try.prog 15 #[.agg #[.string md, .int .u32 key, .slice Ai im.length ci, .slice Ae es.length ce]] y (fun e y' => e = .returned (.agg #[.string md, .int .u32 key, .slice Ai im.length ci, .slice Ae es.length ce]) ∧ (fun y => Below V.heap.size V y ∧ y.cell? ⟨q, 0, none⟩ = some (.string md) ∧ y.cell? ⟨q, 1, none⟩ = some (.int .u32 key) ∧ y.cell? ⟨q, 2, none⟩ = some (.slice Ai im.length ci) ∧ y.cell? ⟨q, 3, none⟩ = some (.slice Ae es.length ce)) y') from fun y hy => (ref14_any md key Ai im ci Ae es ce y).mono (fun e y' h => ⟨h.1, C.out y' (hy.1.trans (h.2.mono hy.1.size))⟩))
      have IA := Lib.hid (show ∀ y, (fun y => Below V.heap.size V y ∧ y.cell? ⟨q, 0, none⟩ = some (.string md) ∧ y.cell? ⟨q, 1, none⟩ = some (.int .u32 key) ∧ y.cell? ⟨q, 2, none⟩ = some (.slice Ai im.length ci) ∧ y.cell? ⟨q, 3, none⟩ = some (.slice Ae es.length ce)) y → Calls Try.prog 16 #[.string md, .slice Ai im.length ci] y (fun e y' => e = .returned (.int .i64 (importsE md im)) ∧ (fun y => Below V.heap.size V y ∧ y.cell? ⟨q, 0, none⟩ = some (.string md) ∧ y.cell? ⟨q, 1, none⟩ = some (.int .u32 key) ∧ y.cell? ⟨q, 2, none⟩ = some (.slice Ai im.length ci) ∧ y.cell? ⟨q, 3, none⟩ = some (.slice Ae es.length ce)) y') from fun y hy => (imports_any md Ai ci im _ y (HI.out.below (BV.out y hy.1)) hmd (by omega) HIO.out).mono (fun e y' h => ⟨h.1, C.out y' (hy.1.trans (h.2.mono hy.1.size))⟩))
      have IR := Lib.hid (show ∀ y, (fun y => Below V.heap.size V y ∧ y.cell? ⟨q, 0, none⟩ = some (.string md) ∧ y.cell? ⟨q, 1, none⟩ = some (.int .u32 key) ∧ y.cell? ⟨q, 2, none⟩ = some (.slice Ai im.length ci) ∧ y.cell? ⟨q, 3, none⟩ = some (.slice Ae es.length ce)) y → Calls Try.prog 17 #[.string md, .slice Ai im.length ci] y (fun e y' => e = .returned (.int .i64 (importsE md im)) ∧ (fun y => Below V.heap.size V y ∧ y.cell? ⟨q, 0, none⟩ = some (.string md) ∧ y.cell? ⟨q, 1, none⟩ = some (.int .u32 key) ∧ y.cell? ⟨q, 2, none⟩ = some (.slice Ai im.length ci) ∧ y.cell? ⟨q, 3, none⟩ = some (.slice Ae es.length ce)) y') from fun y hy => (refimports_any md Ai ci im _ y (HI.out.below (BV.out y hy.1)) (by omega) HIO.out).mono (fun e y' h => ⟨h.1, C.out y' (hy.1.trans (h.2.mono hy.1.size))⟩))
      generalize checkP ⟨md, key, im, es.map (·.1)⟩ = m at *
      generalize importsE md im = n at *
      have dm : (m == m) = true := by simp
      have dn : (n == n) = true := by simp
      clear HI HE
      go_region_held3 (fun y => Below V.heap.size V y ∧ y.cell? ⟨q, 0, none⟩ = some (.string md) ∧ y.cell? ⟨q, 1, none⟩ = some (.int .u32 key) ∧ y.cell? ⟨q, 2, none⟩ = some (.slice Ai im.length ci) ∧ y.cell? ⟨q, 3, none⟩ = some (.slice Ae es.length ce))
        (first
          | with_reducible assumption
          | with_reducible exact L0
          | fail)
        (first
          | (go_at_call 13; refine (CA.out _ (by assumption)).mono ?_; rintro e y0 ⟨rfl, hs0⟩)
          | (go_at_call 14; refine (CR.out _ (by assumption)).mono ?_; rintro e y1 ⟨rfl, hs1⟩)
          | (go_at_call 15; refine (RF.out _ (by assumption)).mono ?_; rintro e y2 ⟨rfl, hs2⟩)
          | (go_at_call 16; refine (IA.out _ (by assumption)).mono ?_; rintro e y3 ⟨rfl, hs3⟩)
          | (go_at_call 17; refine (IR.out _ (by assumption)).mono ?_; rintro e y4 ⟨rfl, hs4⟩))
      all_goals
        rename_i hH
        have BH := Lib.hid (BV.out _ hH.1)
        clear hH L0 C CA CR RF IA IR
        go_wp2_with fail
        go_ret
        exact ⟨rfl, BH.out⟩

set_option maxRecDepth 100000 in
theorem lifted (os : Os) (started : os.Started) (H : Type) (enc : TypeId × Value → H) :
    ReturnsInHanded {} Try.checked os 3 .any (Rows.symfileChecksSpec.pre6 enc Try.prog Try.f3 Rows.symfileChecksRow.domain false) (Rows.symfileChecksSpec.post enc Try.prog Try.f3 false true false false) := by
  refine returnsInHanded_of_change_sized (C := Try.checked) Try.own started (by kernel_rfl) Try.func3
    (ChangeSpec.witness6 (enc := enc) (C := Try.checked) false ⟨#[], #[.agg #[.string ⟨#[]⟩, .int .u32 0, .slice none 0 0, .slice none 0 0]], []⟩ 8 (by kernel_rfl) (by kernel_rfl) (by kernel_rfl) (by kernel_rfl)) ?_
  intro W base args ds gs before hval0 hW hcnd hsz _
  have hval : ∀ (j : Nat) t v, Try.f3.params[j]? = some t → args[j]? = some v → Value.okWide Try.prog W .any base t v := hval0
  have hW' := hW
  obtain ⟨p, q, hA0, hV, rfl, hfz, hnd⟩ := hW
  have hA : DataW.TrodAll enc Try.prog W 0 (fun _ => true) true Try.f3.params.toList args.toList ds p := hA0
  rw [Try.params3] at hA hval
  obtain ⟨v0, vs0, d0, ds0, p0, q0, hargs, rfl, rfl, h0, r0⟩ := trodAll_cons hA
  obtain ⟨rfl, rfl, rfl⟩ := trodAll_nil r0
  obtain rfl : args = #[v0] := by cases args; simp_all
  clear hA0 hval0
  obtain ⟨md0, key0, Ai0, im0, ci0, Ae0, es0, ce0, rfl, hF0⟩ := open_file (hval 0 26 v0 rfl rfl) h0 (fun k hk => Nat.le_trans (of_decide_eq_true (List.all_eq_true.1 hsz _ (DataW.weights_mem_each (j := 0) (t := 26) rfl rfl _ hk))) (by decide))
  refine (walk W md0 key0 Ai0 im0 ci0 Ae0 es0 ce0 hF0).mono fun e W' ⟨he, hg⟩ => ?_
  subst he
  exact ⟨_, rfl, law_post Try.laidOut Try.mapsRowed Try.slicesFull (by kernel_rfl) rfl (by kernel_rfl) Try.underlying4 rfl hW' hg⟩

theorem over : Rows.symfileChecksRow.holds Try.pinned (OpenSpec.ofChange Rows.symfileChecksSpec) :=
  OpenClaim.holds_of_wide 3 Try.f3 rfl rfl rfl rfl rfl rfl rfl ⟨rfl, rfl, rfl, rfl, rfl⟩ rfl rfl rfl rfl rfl (by kernel_rfl) Try.func3 (by kernel_rfl)
    (of_decide_eq_true (by kernel_rfl)) (by unfold Func.isWrapper; first | (rw [if_pos (by decide +kernel)]; kernel_rfl) | (rw [if_neg (by decide +kernel)]; exact ⟨rfl, rfl⟩))
    (fun os started H enc _ => lifted os started H enc)

theorem proved : Rows.SymfileChecksSaid :=
  over
end Go.Proofs.Ythmjniedfiabhaa.lawSymfileChecks
