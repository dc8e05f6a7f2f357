/- Scan: the program's readLetter. -/
import Derived.Test.YtbkagnhficmdhaaDoorScnH
import Derived.Test.YtbkagnhficmdhaaDoorScnG
import Derived.BigQuiet
import Derived.Deep.QuietTactic
import Derived.Test.YtbkagnhficmdhaaDoorTail
namespace Go.Proofs.YtbkagnhficmdhaaDoor
open Go.ChangeShapes Go.WideShapes Go.ChangeAt Go.RowKit
set_option linter.unusedVariables false
set_option linter.unusedSimpArgs false

/-- The letter that begins at a place. -/
def letterP (s : ByteArray) (f : Nat) : Sgn × Int :=
  if f + 2 < s.size ∧ 32 ≤ byN s (f + 1) ∧ byN s (f + 1) ≤ 126 ∧ byN s (f + 2) = 39 then (⟨3, f, f + 3, s.extract f (f + 3), byN s (f + 1)⟩, 0) else (badS f (f + 1), 82)

set_option maxHeartbeats 8000000 in
set_option maxRecDepth 100000 in
theorem readLetter_any (s : ByteArray) (g a : Nat) (w : World) (hQ : Whole w g scT #[.string s, .int .i64 a]) (hs : s.size ≤ 1000000) (ha : a < s.size) : Calls Tryd.prog 26 #[.pointer (some ⟨g, 0, none⟩)] w (ScPost w g s (letterP s a)) := by
  have hg := hQ.lt
  have A := Lib.hid (hQ.alloc (.cells #[.int .i64 0, .int .i64 0, .int .i64 0, .string ⟨#[]⟩, .int .i32 0] gsT))
  have Z := Lib.hid (Whole.made w gsT #[.int .i64 0, .int .i64 0, .int .i64 0, .string ⟨#[]⟩, .int .i32 0] _ rfl)
  have V := Lib.hid ((Sv.refl g w).alloc (.cells #[.int .i64 0, .int .i64 0, .int .i64 0, .string ⟨#[]⟩, .int .i32 0] gsT))
  have a0 : (w.alloc (.cells #[.int .i64 0, .int .i64 0, .int .i64 0, .string ⟨#[]⟩, .int .i32 0] gsT)).cell? ⟨g, 0, none⟩ = some (.string s) := A.out.cell 0
  have a1 : (w.alloc (.cells #[.int .i64 0, .int .i64 0, .int .i64 0, .string ⟨#[]⟩, .int .i32 0] gsT)).cell? ⟨g, 1, none⟩ = some (.int .i64 a) := A.out.cell 1
  have NP := Lib.hid (show letterP s a = if a + 2 < s.size ∧ 32 ≤ byN s (a + 1) ∧ byN s (a + 1) ≤ 126 ∧ byN s (a + 2) = 39 then (⟨3, a, a + 3, s.extract a (a + 3), byN s (a + 1)⟩, 0) else (badS a (a + 1), 82) from rfl)
  generalize letterP s a = p at *
  have haI : (a : Int) ≤ s.size := by omega
  have htI : (a : Int) < s.size := by omega
  by_cases h3 : a + 2 < s.size
  · have d3 : decide (((s.size - a : Nat) : Int) < 3) = false := decide_eq_false (by omega)
    have hr1 : 1 < (s.extract a s.size).size := by rw [rest_size]; omega
    have hr2 : 2 < (s.extract a s.size).size := by rw [rest_size]; omega
    have g1 : ((s.extract a s.size)[1]'hr1).toNat = byN s (a + 1) := (byN_get hr1).symm.trans (rest_get s a 1 (by omega))
    have g2 : ((s.extract a s.size)[2]'hr2).toNat = byN s (a + 2) := (byN_get hr2).symm.trans (rest_get s a 2 (by omega))
    have k1 := byN_lt s (a + 1)
    have k2 := byN_lt s (a + 2)
    generalize byN s (a + 1) = c1 at *
    generalize byN s (a + 2) = c2 at *
    have CP := Lib.hid (fun W => cls_isPrintable c1 W k1)
    by_cases hp : 32 ≤ c1 ∧ c1 ≤ 126
    · have hpp : prnN c1 = true := by unfold prnN; rw [decide_eq_true hp.1, decide_eq_true hp.2]; rfl
      rw [hpp] at CP
      by_cases h39 : c2 = 39
      · have e39 : ((c2 : Int) == 39) = true := beq_iff_eq.2 (by omega)
        have n39 : ((c2 : Int) != 39) = false := by rw [bne, e39]; rfl
        rw [if_pos ⟨h3, hp.1, hp.2, h39⟩] at NP
        have RX := Lib.hid (fun (W : World) (hA : Whole W g scT #[.string s, .int .i64 a]) => show Calls Tryd.prog 20 #[.pointer (some ⟨g, 0, none⟩), .int .i64 3, .int .i64 ((a : Int) + 3), .int .i32 c1] W fun e w' => e = .returned (.tuple #[sgnV (⟨3, a, a + 3, s.extract a (a + 3), c1⟩), .int .i64 0]) ∧ Sv g W w' ∧ Whole w' g scT #[.string s, .int .i64 (⟨3, a, a + 3, s.extract a (a + 3), c1⟩ : Sgn).to] from take_any s g a (a + 3) 3 c1 W hA hs (by omega) (by omega))
        generalize (⟨3, a, a + 3, s.extract a (a + 3), c1⟩ : Sgn) = x at NP RX
        unfold ScPost
        go_enter Tryd.func26, Tryd.ntmps26
        go_wp2_with fail
        go_quiet (fail)
        go_wp2_with fail
        generalize (w.alloc (.cells #[.int .i64 0, .int .i64 0, .int .i64 0, .string ⟨#[]⟩, .int .i32 0] gsT)) = W at *
        refine (CP.out _).mono ?_
        rintro e w1 ⟨rfl, rfl⟩
        go_wp2_with fail
        have A2 := Lib.hid ((A.out.drawn nq).drawn 1)
        have Z2 := Lib.hid ((Z.out.drawn nq).drawn 1)
        have V2 := Lib.hid ((V.out.drawn nq).drawn 1)
        replace A2 := Lib.hid (show Whole (W.drewN nq).drew g scT #[.string s, .int .i64 a] from A2.out)
        replace Z2 := Lib.hid (show Whole (W.drewN nq).drew w.heap.size gsT #[.int .i64 0, .int .i64 0, .int .i64 0, .string ⟨#[]⟩, .int .i32 0] from Z2.out)
        replace V2 := Lib.hid (show Sv g w (W.drewN nq).drew from V2.out)
        have u1 : (W.drewN nq).drew.cell? ⟨g, 1, none⟩ = some (.int .i64 a) := A2.out.cell 1
        have hik : ∀ W : World, (Instr.index 9 (.string (s.extract a s.size)) (.int .i64 1)).run Tryd.prog W = .ok (.int .u8 c1) W := fun W => by
          rw [run_index_string W 9 (s.extract a s.size) .i64 1 Tryd.underlying9, dif_pos ⟨by omega, by omega⟩]
          exact congrArg (fun z : Nat => Result.ok (Value.int .u8 z) W) g1
        have hw3 : IntKind.i64.wrap ((a : Int) + 3) = (a : Int) + 3 := by rw [IntKind.wrap_i64]; omega
        have hwc : IntKind.i32.wrap (c1 : Int) = c1 := by rw [IntKind.wrap_i32]; omega
        refine wp_region_any (by kernel_rfl) ?_
        change wpAny _ _ _ _ _ _ _ (World.drew _)
        generalize (W.drewN nq).drew = U at *
        refine wpAny_take (i := 0) (v := .pointer (some ⟨g, 0, none⟩)) rfl (by kernel_rfl) (by kernel_rfl) (by kernel_rfl) (fun _ _ _ h => h) (.inl ⟨rfl, fun _ => by go_simp; try rfl⟩) ?_
        simp only [Act.put, List.setIfInBounds_toArray, List.set_cons_succ, List.set_cons_zero]
        refine wpAny_take (i := 1) (v := .pointer (some ⟨g, 0, none⟩)) rfl (by kernel_rfl) (by kernel_rfl) (by kernel_rfl) (fun _ _ _ h => h) (.inl ⟨rfl, fun _ => by go_simp; try rfl⟩) ?_
        simp only [Act.put, List.setIfInBounds_toArray, List.set_cons_succ, List.set_cons_zero]
        refine wpAny_take (i := 2) (v := .pointer (some ⟨g, 0, none⟩)) rfl (by kernel_rfl) (by kernel_rfl) (by kernel_rfl) (fun _ _ _ h => h) (.inl ⟨rfl, fun _ => by go_simp; try rfl⟩) ?_
        simp only [Act.put, List.setIfInBounds_toArray, List.set_cons_succ, List.set_cons_zero]
        refine wpAny_take (i := 3) (v := .pointer (some ⟨g, 1, none⟩)) rfl (by kernel_rfl) (by kernel_rfl) (by kernel_rfl) (fun _ _ _ h => h) (.inl ⟨rfl, fun _ => by go_simp; try rfl⟩) ?_
        simp only [Act.put, List.setIfInBounds_toArray, List.set_cons_succ, List.set_cons_zero]
        refine wpAny_take (i := 6) (v := .string (s.extract a s.size)) rfl (by kernel_rfl) (by kernel_rfl) (by kernel_rfl) (fun _ _ _ h => h) (.inl ⟨rfl, fun _ => by go_simp; try rfl⟩) ?_
        simp only [Act.put, List.setIfInBounds_toArray, List.set_cons_succ, List.set_cons_zero]
        refine wpAny_take (i := 7) (v := .int .u8 c1) rfl (by kernel_rfl) (by kernel_rfl) (by kernel_rfl) (fun _ _ _ h => h) (.inl ⟨rfl, fun _ => by go_simp; try rfl⟩) ?_
        simp only [Act.put, List.setIfInBounds_toArray, List.set_cons_succ, List.set_cons_zero]
        refine wpAny_take (i := 8) (v := .int .i32 c1) rfl (by kernel_rfl) (by kernel_rfl) (by kernel_rfl) (fun _ _ _ h => h) (.inl ⟨rfl, fun _ => by go_simp; try rfl⟩) ?_
        simp only [Act.put, List.setIfInBounds_toArray, List.set_cons_succ, List.set_cons_zero]
        refine any_only (i := 4) (v := .int .i64 a) rfl (by kernel_rfl) rfl (by go_simp; try rfl) ?_
        simp only [Act.put, List.setIfInBounds_toArray, List.set_cons_succ, List.set_cons_zero]
        refine any_only (i := 5) (v := .int .i64 ((a : Int) + 3)) rfl (by kernel_rfl) rfl (by go_simp; try rfl) ?_
        simp only [Act.put, List.setIfInBounds_toArray, List.set_cons_succ, List.set_cons_zero]
        refine any_call (i := 9) rfl (by kernel_rfl) rfl (by go_simp; try rfl) (RX.out _ A2.out) ?_
        rintro e w1 ⟨rfl, hv, hq⟩
        refine ⟨_, rfl, ?_⟩
        simp only [Act.put, List.setIfInBounds_toArray, List.set_cons_succ, List.set_cons_zero]
        refine wpAny_take (i := 10) (v := sgnV x) rfl (by kernel_rfl) (by kernel_rfl) (by kernel_rfl) (fun _ _ _ h => h) (.inl ⟨rfl, fun _ => by go_simp; try rfl⟩) ?_
        simp only [Act.put, List.setIfInBounds_toArray, List.set_cons_succ, List.set_cons_zero]
        refine wpAny_take (i := 11) (v := .int .i64 0) rfl (by kernel_rfl) (by kernel_rfl) (by kernel_rfl) (fun _ _ _ h => h) (.inl ⟨rfl, fun _ => by go_simp; try rfl⟩) ?_
        simp only [Act.put, List.setIfInBounds_toArray, List.set_cons_succ, List.set_cons_zero]
        refine wpAny_of_seq [_, _] 12 _ _ _ (fun j => by
          rcases j with _ | _ | j
          · rfl
          · rfl
          · rw [List.getElem?_eq_none (by simp), Array.getElem?_eq_none (by simp; omega)]) (by kernel_rfl) ?_
        have Z1 := Lib.hid (hv.whole Z2.out (by omega))
        have V1 := Lib.hid (Sv.trans V2.out hv)
        have A1 := Lib.hid hq
        clear hv hq
        have q0 : w1.cell? ⟨w.heap.size, 0, none⟩ = some (.int .i64 0) := Z1.out.cell 0
        have f0 := Z1.out.free 0
        have q1 : w1.cell? ⟨w.heap.size, 1, none⟩ = some (.int .i64 0) := Z1.out.cell 1
        have f1 := Z1.out.free 1
        have q2 : w1.cell? ⟨w.heap.size, 2, none⟩ = some (.int .i64 0) := Z1.out.cell 2
        have f2 := Z1.out.free 2
        have q3 : w1.cell? ⟨w.heap.size, 3, none⟩ = some (.string ⟨#[]⟩) := Z1.out.cell 3
        have f3 := Z1.out.free 3
        have q4 : w1.cell? ⟨w.heap.size, 4, none⟩ = some (.int .i32 0) := Z1.out.cell 4
        have f4 := Z1.out.free 4
        go_wp2_with fail
        refine bodyPost_ret (v := .tuple #[sgnV x, .int .i64 0]) ?_ rfl ⟨by rw [NP.out], V1.out.set5 _ (Nat.le_refl _) _ _ _ _ _, by rw [NP.out]; exact A1.out.far5 _ (by omega) _ _ _ _ _⟩
        simp [results, Tryd.results26, go_sem, q0, q1, q2, q3, q4]
      · have e39 : ((c2 : Int) == 39) = false := beq_eq_false_iff_ne.2 (by omega)
        have n39 : ((c2 : Int) != 39) = true := by rw [bne, e39]; rfl
        rw [if_neg (fun h => h39 h.2.2.2)] at NP
        have RX := Lib.hid (fun (W : World) (hA : Whole W g scT #[.string s, .int .i64 a]) => show Calls Tryd.prog 19 #[.pointer (some ⟨g, 0, none⟩), .int .i64 ((a : Int) + 1), .int .i64 82] W fun e w' => e = .returned (.tuple #[sgnV (badS a (a + 1)), .int .i64 82]) ∧ Sv g W w' ∧ Whole w' g scT #[.string s, .int .i64 (badS a (a + 1) : Sgn).to] from reject_any s g a (a + 1) 82 W hA)
        generalize (badS a (a + 1) : Sgn) = x at NP RX
        unfold ScPost
        go_enter Tryd.func26, Tryd.ntmps26
        go_wp2_with fail
        go_quiet (fail)
        go_wp2_with fail
        generalize (w.alloc (.cells #[.int .i64 0, .int .i64 0, .int .i64 0, .string ⟨#[]⟩, .int .i32 0] gsT)) = W at *
        refine (CP.out _).mono ?_
        rintro e w1 ⟨rfl, rfl⟩
        go_wp2_with fail
        refine (RX.out _ (A.out.drawn _)).mono ?_
        rintro e w1 ⟨rfl, hv, hq⟩
        have Z1 := Lib.hid (hv.whole (Z.out.drawn _) (by omega))
        have V1 := Lib.hid (Sv.trans (V.out.drawn _) hv)
        have A1 := Lib.hid hq
        clear hv hq
        have q0 : w1.cell? ⟨w.heap.size, 0, none⟩ = some (.int .i64 0) := Z1.out.cell 0
        have f0 := Z1.out.free 0
        have q1 : w1.cell? ⟨w.heap.size, 1, none⟩ = some (.int .i64 0) := Z1.out.cell 1
        have f1 := Z1.out.free 1
        have q2 : w1.cell? ⟨w.heap.size, 2, none⟩ = some (.int .i64 0) := Z1.out.cell 2
        have f2 := Z1.out.free 2
        have q3 : w1.cell? ⟨w.heap.size, 3, none⟩ = some (.string ⟨#[]⟩) := Z1.out.cell 3
        have f3 := Z1.out.free 3
        have q4 : w1.cell? ⟨w.heap.size, 4, none⟩ = some (.int .i32 0) := Z1.out.cell 4
        have f4 := Z1.out.free 4
        go_wp2_with fail
        refine bodyPost_ret (v := .tuple #[sgnV x, .int .i64 82]) ?_ rfl ⟨by rw [NP.out], V1.out.set5 _ (Nat.le_refl _) _ _ _ _ _, by rw [NP.out]; exact A1.out.far5 _ (by omega) _ _ _ _ _⟩
        simp [results, Tryd.results26, go_sem, q0, q1, q2, q3, q4]
    · have hpp : prnN c1 = false := by
        cases h : prnN c1
        · rfl
        · exact absurd (by unfold prnN at h; simpa only [Bool.and_eq_true, decide_eq_true_eq] using h) hp
      rw [hpp] at CP
      rw [if_neg (fun h => hp ⟨h.2.1, h.2.2.1⟩)] at NP
      have RX := Lib.hid (fun (W : World) (hA : Whole W g scT #[.string s, .int .i64 a]) => show Calls Tryd.prog 19 #[.pointer (some ⟨g, 0, none⟩), .int .i64 ((a : Int) + 1), .int .i64 82] W fun e w' => e = .returned (.tuple #[sgnV (badS a (a + 1)), .int .i64 82]) ∧ Sv g W w' ∧ Whole w' g scT #[.string s, .int .i64 (badS a (a + 1) : Sgn).to] from reject_any s g a (a + 1) 82 W hA)
      generalize (badS a (a + 1) : Sgn) = x at NP RX
      unfold ScPost
      go_enter Tryd.func26, Tryd.ntmps26
      go_wp2_with fail
      go_quiet (fail)
      go_wp2_with fail
      generalize (w.alloc (.cells #[.int .i64 0, .int .i64 0, .int .i64 0, .string ⟨#[]⟩, .int .i32 0] gsT)) = W at *
      refine (CP.out _).mono ?_
      rintro e w1 ⟨rfl, rfl⟩
      go_wp2_with fail
      refine (RX.out _ (A.out.drawn _)).mono ?_
      rintro e w1 ⟨rfl, hv, hq⟩
      have Z1 := Lib.hid (hv.whole (Z.out.drawn _) (by omega))
      have V1 := Lib.hid (Sv.trans (V.out.drawn _) hv)
      have A1 := Lib.hid hq
      clear hv hq
      have q0 : w1.cell? ⟨w.heap.size, 0, none⟩ = some (.int .i64 0) := Z1.out.cell 0
      have f0 := Z1.out.free 0
      have q1 : w1.cell? ⟨w.heap.size, 1, none⟩ = some (.int .i64 0) := Z1.out.cell 1
      have f1 := Z1.out.free 1
      have q2 : w1.cell? ⟨w.heap.size, 2, none⟩ = some (.int .i64 0) := Z1.out.cell 2
      have f2 := Z1.out.free 2
      have q3 : w1.cell? ⟨w.heap.size, 3, none⟩ = some (.string ⟨#[]⟩) := Z1.out.cell 3
      have f3 := Z1.out.free 3
      have q4 : w1.cell? ⟨w.heap.size, 4, none⟩ = some (.int .i32 0) := Z1.out.cell 4
      have f4 := Z1.out.free 4
      go_wp2_with fail
      refine bodyPost_ret (v := .tuple #[sgnV x, .int .i64 82]) ?_ rfl ⟨by rw [NP.out], V1.out.set5 _ (Nat.le_refl _) _ _ _ _ _, by rw [NP.out]; exact A1.out.far5 _ (by omega) _ _ _ _ _⟩
      simp [results, Tryd.results26, go_sem, q0, q1, q2, q3, q4]
  · have d3 : decide (((s.size - a : Nat) : Int) < 3) = true := decide_eq_true (by omega)
    rw [if_neg (fun h => h3 h.1)] at NP
    have RX := Lib.hid (fun (W : World) (hA : Whole W g scT #[.string s, .int .i64 a]) => show Calls Tryd.prog 19 #[.pointer (some ⟨g, 0, none⟩), .int .i64 ((a : Int) + 1), .int .i64 82] W fun e w' => e = .returned (.tuple #[sgnV (badS a (a + 1)), .int .i64 82]) ∧ Sv g W w' ∧ Whole w' g scT #[.string s, .int .i64 (badS a (a + 1) : Sgn).to] from reject_any s g a (a + 1) 82 W hA)
    generalize (badS a (a + 1) : Sgn) = x at NP RX
    unfold ScPost
    go_enter Tryd.func26, Tryd.ntmps26
    go_wp2_with fail
    go_quiet (fail)
    go_wp2_with fail
    generalize (w.alloc (.cells #[.int .i64 0, .int .i64 0, .int .i64 0, .string ⟨#[]⟩, .int .i32 0] gsT)) = W at *
    refine (RX.out _ (A.out.drawn _)).mono ?_
    rintro e w1 ⟨rfl, hv, hq⟩
    have Z1 := Lib.hid (hv.whole (Z.out.drawn _) (by omega))
    have V1 := Lib.hid (Sv.trans (V.out.drawn _) hv)
    have A1 := Lib.hid hq
    clear hv hq
    have q0 : w1.cell? ⟨w.heap.size, 0, none⟩ = some (.int .i64 0) := Z1.out.cell 0
    have f0 := Z1.out.free 0
    have q1 : w1.cell? ⟨w.heap.size, 1, none⟩ = some (.int .i64 0) := Z1.out.cell 1
    have f1 := Z1.out.free 1
    have q2 : w1.cell? ⟨w.heap.size, 2, none⟩ = some (.int .i64 0) := Z1.out.cell 2
    have f2 := Z1.out.free 2
    have q3 : w1.cell? ⟨w.heap.size, 3, none⟩ = some (.string ⟨#[]⟩) := Z1.out.cell 3
    have f3 := Z1.out.free 3
    have q4 : w1.cell? ⟨w.heap.size, 4, none⟩ = some (.int .i32 0) := Z1.out.cell 4
    have f4 := Z1.out.free 4
    go_wp2_with fail
    refine bodyPost_ret (v := .tuple #[sgnV x, .int .i64 82]) ?_ rfl ⟨by rw [NP.out], V1.out.set5 _ (Nat.le_refl _) _ _ _ _ _, by rw [NP.out]; exact A1.out.far5 _ (by omega) _ _ _ _ _⟩
    simp [results, Tryd.results26, go_sem, q0, q1, q2, q3, q4]

end Go.Proofs.YtbkagnhficmdhaaDoor
