/- Scan: the program's readMark. -/
import Derived.Test.YtbkagnhficmdhaaDoorScnH
import Derived.Test.YtbkagnhficmdhaaDoorScnG
import Derived.BigQuiet
import Derived.Deep.QuietTactic
import Derived.Lib.IndexBytes
namespace Go.Proofs.YtbkagnhficmdhaaDoor
open Go.ChangeShapes Go.WideShapes Go.ChangeAt Go.RowKit
set_option linter.unusedVariables false
set_option linter.unusedSimpArgs false

/-- The mark that begins at a place. -/
def markP (s : ByteArray) (f : Nat) : Sgn × Int :=
  if twoP s f 58 61 = true ∨ twoP s f 60 61 = true ∨ twoP s f 62 61 = true then (⟨6, f, f + 2, s.extract f (f + 2), 0⟩, 0)
  else if markRow.contains (byN s f) = true then (⟨6, f, f + 1, s.extract f (f + 1), 0⟩, 0)
  else (badS f (f + 1), 83)

theorem index_strs {P : Program} {t e : TypeId} {n : Nat} {k : IntKind} (h : P.underlying t = some (.array n e)) (he : P.underlying e = some .string) (hq' : (P.info? e).map (·.size) = some 1)
    (cs : Array Value) (j : Nat) (v : Value) (hj : j < n) (hc : cs[j]? = some v) (w : World) : (Instr.index t (.agg cs) (.int k j)).run P w = .ok v w := by
  have hagg : (isAgg e).run P w = .ok false w := by
    unfold isAgg
    simp [Sem.run_bind, run_underlying he]
  obtain ⟨i, hq, hs⟩ := Option.map_eq_some_iff.1 hq'
  simp [Instr.index, asIntOf, run_underlying h, hj, sizeOf, typeInfo, hq, hs, part, hagg, hc]

abbrev markS : ByteArray := ⟨#[43, 45, 42, 61, 35, 60, 62, 40, 41, 91, 93, 46, 44, 59, 58, 94, 124]⟩

theorem mark_found (c : Nat) (hc : c < 256) : decide (Lib.indexByte markS.data.toList ((c : Int).toNat.toUInt8) < 0) = !markRow.contains c := by
  have h : ((List.range 256).all fun c => decide (Lib.indexByte markS.data.toList ((c : Int).toNat.toUInt8) < 0) == !markRow.contains c) = true := by kernel_rfl
  exact beq_iff_eq.1 (List.all_eq_true.1 h c (List.mem_range.2 hc))

set_option maxHeartbeats 8000000 in
set_option maxRecDepth 100000 in
theorem readMark_any (s : ByteArray) (g a : Nat) (w : World) (hQ : Whole w g scT #[.string s, .int .i64 a]) (hs : s.size ≤ 1000000) (ha : a < s.size) : Calls Tryd.prog 28 #[.pointer (some ⟨g, 0, none⟩)] w (ScPost w g s (markP s a)) := by
  have hg := hQ.lt
  have A := Lib.hid (hQ.alloc (.cells #[.int .i64 0, .int .i64 0, .int .i64 0, .string ⟨#[]⟩, .int .i32 0] gsT))
  have Z := Lib.hid (Whole.made w gsT #[.int .i64 0, .int .i64 0, .int .i64 0, .string ⟨#[]⟩, .int .i32 0] _ rfl)
  have V := Lib.hid ((Sv.refl g w).alloc (.cells #[.int .i64 0, .int .i64 0, .int .i64 0, .string ⟨#[]⟩, .int .i32 0] gsT))
  have a0 : (w.alloc (.cells #[.int .i64 0, .int .i64 0, .int .i64 0, .string ⟨#[]⟩, .int .i32 0] gsT)).cell? ⟨g, 0, none⟩ = some (.string s) := A.out.cell 0
  have a1 : (w.alloc (.cells #[.int .i64 0, .int .i64 0, .int .i64 0, .string ⟨#[]⟩, .int .i32 0] gsT)).cell? ⟨g, 1, none⟩ = some (.int .i64 a) := A.out.cell 1
  have NP := Lib.hid (show markP s a = if twoP s a 58 61 = true ∨ twoP s a 60 61 = true ∨ twoP s a 62 61 = true then (⟨6, a, a + 2, s.extract a (a + 2), 0⟩, 0) else if markRow.contains (byN s a) = true then (⟨6, a, a + 1, s.extract a (a + 1), 0⟩, 0) else (badS a (a + 1), 83) from rfl)
  generalize markP s a = p at *
  have haI : (a : Int) ≤ s.size := by omega
  have htI : (a : Int) < s.size := by omega
  have hr0 : 0 < (s.extract a s.size).size := by rw [rest_size]; omega
  have g0 : ((s.extract a s.size)[0]'hr0).toNat = byN s a := (byN_get hr0).symm.trans (rest_get s a 0 (by omega))
  have k0 := byN_lt s a
  have HP := Lib.hid (fun (b : UInt8) W => (Tryd.strings_HasPrefix (s.extract a s.size) ⟨#[b, 61]⟩ W).mono (fun e w' h => show e = .returned (.bool (twoP s a b.toNat 61)) ∧ W = w' from ⟨by rw [h.1]; exact congrArg (fun b => Ending.returned (.bool b)) (hasPrefix_two s a b 61 (Nat.le_of_lt ha)), h.2.symm⟩))
  have IB := Lib.hid (fun W => (Tryd.strings_IndexByte markS (byN s a : Nat) W))
  have MF := Lib.hid (mark_found (byN s a) k0)
  generalize byN s a = c at *
  unfold ScPost
  go_enter Tryd.func28, Tryd.ntmps28
  go_wp2_with fail
  go_quiet (fail)
  go_wp2_with fail
  generalize (w.alloc (.cells #[.int .i64 0, .int .i64 0, .int .i64 0, .string ⟨#[]⟩, .int .i32 0] gsT)) = W at *
  have HP0 := Lib.hid (HP.out 58)
  have HP1 := Lib.hid (HP.out 60)
  have HP2 := Lib.hid (HP.out 62)
  clear HP
  generalize hb0 : twoP s a (58 : UInt8).toNat 61 = b0 at HP0
  generalize hb1 : twoP s a (60 : UInt8).toNat 61 = b1 at HP1
  generalize hb2 : twoP s a (62 : UInt8).toNat 61 = b2 at HP2
  replace NP := Lib.hid (show p = if b0 = true ∨ b1 = true ∨ b2 = true then (⟨6, a, a + 2, s.extract a (a + 2), 0⟩, 0) else if markRow.contains c = true then (⟨6, a, a + 1, s.extract a (a + 1), 0⟩, 0) else (badS a (a + 1), 83) from by rw [← hb0, ← hb1, ← hb2]; exact NP.out)
  have hl0 : b0 = true → a + 2 ≤ s.size := fun h => by have := twoP_lt (hb0.trans h); omega
  have hl1 : b1 = true → a + 2 ≤ s.size := fun h => by have := twoP_lt (hb1.trans h); omega
  have hl2 : b2 = true → a + 2 ≤ s.size := fun h => by have := twoP_lt (hb2.trans h); omega
  clear hb0 hb1 hb2
  have H0 := Lib.hid hl0
  have H1 := Lib.hid hl1
  have H2 := Lib.hid hl2
  clear hl0 hl1 hl2
  have ix0 : ∀ W : World, (Instr.index 63 (.agg #[.string ⟨#[58, 61]⟩, .string ⟨#[60, 61]⟩, .string ⟨#[62, 61]⟩]) (.int .i64 0)).run Tryd.prog W = .ok (.string ⟨#[58, 61]⟩) W := fun W => index_strs Tryd.underlying63 Tryd.underlying9 (by kernel_rfl) _ 0 _ (by decide) rfl W
  have ix1 : ∀ W : World, (Instr.index 63 (.agg #[.string ⟨#[58, 61]⟩, .string ⟨#[60, 61]⟩, .string ⟨#[62, 61]⟩]) (.int .i64 1)).run Tryd.prog W = .ok (.string ⟨#[60, 61]⟩) W := fun W => index_strs Tryd.underlying63 Tryd.underlying9 (by kernel_rfl) _ 1 _ (by decide) rfl W
  have ix2 : ∀ W : World, (Instr.index 63 (.agg #[.string ⟨#[58, 61]⟩, .string ⟨#[60, 61]⟩, .string ⟨#[62, 61]⟩]) (.int .i64 2)).run Tryd.prog W = .ok (.string ⟨#[62, 61]⟩) W := fun W => index_strs Tryd.underlying63 Tryd.underlying9 (by kernel_rfl) _ 2 _ (by decide) rfl W
  refine wp_loop_rounds 4 ?_
  cases b0
  case true =>
    have hl2 : a + 2 ≤ s.size := H0.out rfl
    rw [if_pos (.inl rfl)] at NP
    have RX := Lib.hid (fun (W : World) (hA : Whole W g scT #[.string s, .int .i64 a]) => show Calls Tryd.prog 20 #[.pointer (some ⟨g, 0, none⟩), .int .i64 6, .int .i64 ((a : Int) + 2), .int .i32 0] W fun e w' => e = .returned (.tuple #[sgnV (⟨6, a, a + 2, s.extract a (a + 2), 0⟩), .int .i64 0]) ∧ Sv g W w' ∧ Whole w' g scT #[.string s, .int .i64 (⟨6, a, a + 2, s.extract a (a + 2), 0⟩ : Sgn).to] from take_any s g a (a + 2) 6 0 W hA hs (by omega) (by omega))
    generalize (⟨6, a, a + 2, s.extract a (a + 2), 0⟩ : Sgn) = x at NP RX
    rw [rounds_succ]
    go_wp2_with fail
    refine (HP0.out _).mono ?_
    rintro e w1 ⟨rfl, rfl⟩
    go_wp2_with fail
    refine (RX.out _ (A.out.drawn _)).mono ?_
    rintro e w1 ⟨rfl, hv, hq⟩
    have Z1 := Lib.hid (hv.whole (Z.out.drawn _) (by omega))
    have V1 := Lib.hid (Sv.trans (V.out.drawn _) hv)
    have A1 := Lib.hid hq
    clear hv hq
    have q0 : w1.cell? ⟨w.heap.size, 0, none⟩ = some (.int .i64 0) := Z1.out.cell 0
    have f0 := Z1.out.free 0
    have q1 : w1.cell? ⟨w.heap.size, 1, none⟩ = some (.int .i64 0) := Z1.out.cell 1
    have f1 := Z1.out.free 1
    have q2 : w1.cell? ⟨w.heap.size, 2, none⟩ = some (.int .i64 0) := Z1.out.cell 2
    have f2 := Z1.out.free 2
    have q3 : w1.cell? ⟨w.heap.size, 3, none⟩ = some (.string ⟨#[]⟩) := Z1.out.cell 3
    have f3 := Z1.out.free 3
    have q4 : w1.cell? ⟨w.heap.size, 4, none⟩ = some (.int .i32 0) := Z1.out.cell 4
    have f4 := Z1.out.free 4
    go_wp2_with fail
    refine bodyPost_ret (v := .tuple #[sgnV x, .int .i64 0]) ?_ rfl ⟨by rw [NP.out], V1.out.set5 _ (Nat.le_refl _) _ _ _ _ _, by rw [NP.out]; exact A1.out.far5 _ (by omega) _ _ _ _ _⟩
    simp [results, Tryd.results28, go_sem, q0, q1, q2, q3, q4]
  case false =>
    rw [rounds_succ]
    go_wp2_with fail
    refine (HP0.out _).mono ?_
    rintro e w1 ⟨rfl, rfl⟩
    go_wp2_with fail
    cases b1
    case true =>
      have hl2 : a + 2 ≤ s.size := H1.out rfl
      rw [if_pos (.inr (.inl rfl))] at NP
      have RX := Lib.hid (fun (W : World) (hA : Whole W g scT #[.string s, .int .i64 a]) => show Calls Tryd.prog 20 #[.pointer (some ⟨g, 0, none⟩), .int .i64 6, .int .i64 ((a : Int) + 2), .int .i32 0] W fun e w' => e = .returned (.tuple #[sgnV (⟨6, a, a + 2, s.extract a (a + 2), 0⟩), .int .i64 0]) ∧ Sv g W w' ∧ Whole w' g scT #[.string s, .int .i64 (⟨6, a, a + 2, s.extract a (a + 2), 0⟩ : Sgn).to] from take_any s g a (a + 2) 6 0 W hA hs (by omega) (by omega))
      generalize (⟨6, a, a + 2, s.extract a (a + 2), 0⟩ : Sgn) = x at NP RX
      rw [rounds_succ]
      go_wp2_with fail
      refine (HP1.out _).mono ?_
      rintro e w1 ⟨rfl, rfl⟩
      go_wp2_with fail
      refine (RX.out _ (A.out.drawn _)).mono ?_
      rintro e w1 ⟨rfl, hv, hq⟩
      have Z1 := Lib.hid (hv.whole (Z.out.drawn _) (by omega))
      have V1 := Lib.hid (Sv.trans (V.out.drawn _) hv)
      have A1 := Lib.hid hq
      clear hv hq
      have q0 : w1.cell? ⟨w.heap.size, 0, none⟩ = some (.int .i64 0) := Z1.out.cell 0
      have f0 := Z1.out.free 0
      have q1 : w1.cell? ⟨w.heap.size, 1, none⟩ = some (.int .i64 0) := Z1.out.cell 1
      have f1 := Z1.out.free 1
      have q2 : w1.cell? ⟨w.heap.size, 2, none⟩ = some (.int .i64 0) := Z1.out.cell 2
      have f2 := Z1.out.free 2
      have q3 : w1.cell? ⟨w.heap.size, 3, none⟩ = some (.string ⟨#[]⟩) := Z1.out.cell 3
      have f3 := Z1.out.free 3
      have q4 : w1.cell? ⟨w.heap.size, 4, none⟩ = some (.int .i32 0) := Z1.out.cell 4
      have f4 := Z1.out.free 4
      go_wp2_with fail
      refine bodyPost_ret (v := .tuple #[sgnV x, .int .i64 0]) ?_ rfl ⟨by rw [NP.out], V1.out.set5 _ (Nat.le_refl _) _ _ _ _ _, by rw [NP.out]; exact A1.out.far5 _ (by omega) _ _ _ _ _⟩
      simp [results, Tryd.results28, go_sem, q0, q1, q2, q3, q4]
    case false =>
      rw [rounds_succ]
      go_wp2_with fail
      refine (HP1.out _).mono ?_
      rintro e w1 ⟨rfl, rfl⟩
      go_wp2_with fail
      cases b2
      case true =>
        have hl2 : a + 2 ≤ s.size := H2.out rfl
        rw [if_pos (.inr (.inr rfl))] at NP
        have RX := Lib.hid (fun (W : World) (hA : Whole W g scT #[.string s, .int .i64 a]) => show Calls Tryd.prog 20 #[.pointer (some ⟨g, 0, none⟩), .int .i64 6, .int .i64 ((a : Int) + 2), .int .i32 0] W fun e w' => e = .returned (.tuple #[sgnV (⟨6, a, a + 2, s.extract a (a + 2), 0⟩), .int .i64 0]) ∧ Sv g W w' ∧ Whole w' g scT #[.string s, .int .i64 (⟨6, a, a + 2, s.extract a (a + 2), 0⟩ : Sgn).to] from take_any s g a (a + 2) 6 0 W hA hs (by omega) (by omega))
        generalize (⟨6, a, a + 2, s.extract a (a + 2), 0⟩ : Sgn) = x at NP RX
        rw [rounds_succ]
        go_wp2_with fail
        refine (HP2.out _).mono ?_
        rintro e w1 ⟨rfl, rfl⟩
        go_wp2_with fail
        refine (RX.out _ (A.out.drawn _)).mono ?_
        rintro e w1 ⟨rfl, hv, hq⟩
        have Z1 := Lib.hid (hv.whole (Z.out.drawn _) (by omega))
        have V1 := Lib.hid (Sv.trans (V.out.drawn _) hv)
        have A1 := Lib.hid hq
        clear hv hq
        have q0 : w1.cell? ⟨w.heap.size, 0, none⟩ = some (.int .i64 0) := Z1.out.cell 0
        have f0 := Z1.out.free 0
        have q1 : w1.cell? ⟨w.heap.size, 1, none⟩ = some (.int .i64 0) := Z1.out.cell 1
        have f1 := Z1.out.free 1
        have q2 : w1.cell? ⟨w.heap.size, 2, none⟩ = some (.int .i64 0) := Z1.out.cell 2
        have f2 := Z1.out.free 2
        have q3 : w1.cell? ⟨w.heap.size, 3, none⟩ = some (.string ⟨#[]⟩) := Z1.out.cell 3
        have f3 := Z1.out.free 3
        have q4 : w1.cell? ⟨w.heap.size, 4, none⟩ = some (.int .i32 0) := Z1.out.cell 4
        have f4 := Z1.out.free 4
        go_wp2_with fail
        refine bodyPost_ret (v := .tuple #[sgnV x, .int .i64 0]) ?_ rfl ⟨by rw [NP.out], V1.out.set5 _ (Nat.le_refl _) _ _ _ _ _, by rw [NP.out]; exact A1.out.far5 _ (by omega) _ _ _ _ _⟩
        simp [results, Tryd.results28, go_sem, q0, q1, q2, q3, q4]
      case false =>
        rw [rounds_succ]
        go_wp2_with fail
        refine (HP2.out _).mono ?_
        rintro e w1 ⟨rfl, rfl⟩
        go_wp2_with fail
        rw [if_neg (by simp)] at NP
        generalize Lib.indexByte _ _ = idx at IB MF
        cases hk : markRow.contains c
        · rw [hk] at MF
          have dM : decide (idx < 0) = true := MF.out
          rw [if_neg (by rw [hk]; decide)] at NP
          clear hk MF
          have RX := Lib.hid (fun (W : World) (hA : Whole W g scT #[.string s, .int .i64 a]) => show Calls Tryd.prog 19 #[.pointer (some ⟨g, 0, none⟩), .int .i64 ((a : Int) + 1), .int .i64 83] W fun e w' => e = .returned (.tuple #[sgnV (badS a (a + 1)), .int .i64 83]) ∧ Sv g W w' ∧ Whole w' g scT #[.string s, .int .i64 (badS a (a + 1) : Sgn).to] from reject_any s g a (a + 1) 83 W hA)
          generalize (badS a (a + 1) : Sgn) = x at NP RX
          rw [rounds_succ]
          go_wp2_with fail
          refine (IB.out _).mono ?_
          rintro e w1 ⟨rfl, rfl⟩
          go_wp2_with fail
          refine (RX.out _ (A.out.drawn _)).mono ?_
          rintro e w1 ⟨rfl, hv, hq⟩
          have Z1 := Lib.hid (hv.whole (Z.out.drawn _) (by omega))
          have V1 := Lib.hid (Sv.trans (V.out.drawn _) hv)
          have A1 := Lib.hid hq
          clear hv hq
          have q0 : w1.cell? ⟨w.heap.size, 0, none⟩ = some (.int .i64 0) := Z1.out.cell 0
          have f0 := Z1.out.free 0
          have q1 : w1.cell? ⟨w.heap.size, 1, none⟩ = some (.int .i64 0) := Z1.out.cell 1
          have f1 := Z1.out.free 1
          have q2 : w1.cell? ⟨w.heap.size, 2, none⟩ = some (.int .i64 0) := Z1.out.cell 2
          have f2 := Z1.out.free 2
          have q3 : w1.cell? ⟨w.heap.size, 3, none⟩ = some (.string ⟨#[]⟩) := Z1.out.cell 3
          have f3 := Z1.out.free 3
          have q4 : w1.cell? ⟨w.heap.size, 4, none⟩ = some (.int .i32 0) := Z1.out.cell 4
          have f4 := Z1.out.free 4
          go_wp2_with fail
          refine bodyPost_ret (v := .tuple #[sgnV x, .int .i64 83]) ?_ rfl ⟨by rw [NP.out], V1.out.set5 _ (Nat.le_refl _) _ _ _ _ _, by rw [NP.out]; exact A1.out.far5 _ (by omega) _ _ _ _ _⟩
          simp [results, Tryd.results28, go_sem, q0, q1, q2, q3, q4]
        · rw [hk] at MF
          have dM : decide (idx < 0) = false := MF.out
          rw [if_pos hk] at NP
          clear hk MF
          have RX := Lib.hid (fun (W : World) (hA : Whole W g scT #[.string s, .int .i64 a]) => show Calls Tryd.prog 20 #[.pointer (some ⟨g, 0, none⟩), .int .i64 6, .int .i64 ((a : Int) + 1), .int .i32 0] W fun e w' => e = .returned (.tuple #[sgnV (⟨6, a, a + 1, s.extract a (a + 1), 0⟩), .int .i64 0]) ∧ Sv g W w' ∧ Whole w' g scT #[.string s, .int .i64 (⟨6, a, a + 1, s.extract a (a + 1), 0⟩ : Sgn).to] from take_any s g a (a + 1) 6 0 W hA hs (by omega) (by omega))
          generalize (⟨6, a, a + 1, s.extract a (a + 1), 0⟩ : Sgn) = x at NP RX
          rw [rounds_succ]
          go_wp2_with fail
          refine (IB.out _).mono ?_
          rintro e w1 ⟨rfl, rfl⟩
          go_wp2_with fail
          refine (RX.out _ (A.out.drawn _)).mono ?_
          rintro e w1 ⟨rfl, hv, hq⟩
          have Z1 := Lib.hid (hv.whole (Z.out.drawn _) (by omega))
          have V1 := Lib.hid (Sv.trans (V.out.drawn _) hv)
          have A1 := Lib.hid hq
          clear hv hq
          have q0 : w1.cell? ⟨w.heap.size, 0, none⟩ = some (.int .i64 0) := Z1.out.cell 0
          have f0 := Z1.out.free 0
          have q1 : w1.cell? ⟨w.heap.size, 1, none⟩ = some (.int .i64 0) := Z1.out.cell 1
          have f1 := Z1.out.free 1
          have q2 : w1.cell? ⟨w.heap.size, 2, none⟩ = some (.int .i64 0) := Z1.out.cell 2
          have f2 := Z1.out.free 2
          have q3 : w1.cell? ⟨w.heap.size, 3, none⟩ = some (.string ⟨#[]⟩) := Z1.out.cell 3
          have f3 := Z1.out.free 3
          have q4 : w1.cell? ⟨w.heap.size, 4, none⟩ = some (.int .i32 0) := Z1.out.cell 4
          have f4 := Z1.out.free 4
          go_wp2_with fail
          refine bodyPost_ret (v := .tuple #[sgnV x, .int .i64 0]) ?_ rfl ⟨by rw [NP.out], V1.out.set5 _ (Nat.le_refl _) _ _ _ _ _, by rw [NP.out]; exact A1.out.far5 _ (by omega) _ _ _ _ _⟩
          simp [results, Tryd.results28, go_sem, q0, q1, q2, q3, q4]


end Go.Proofs.YtbkagnhficmdhaaDoor
