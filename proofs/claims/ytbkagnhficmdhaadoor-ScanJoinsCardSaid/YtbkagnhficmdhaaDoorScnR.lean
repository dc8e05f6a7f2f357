/- Scan: the program's readWord. -/
import Derived.Test.YtbkagnhficmdhaaDoorScnH
import Derived.Test.YtbkagnhficmdhaaDoorScnQ
import Derived.Test.YtbkagnhficmdhaaDoorScnE2
import Derived.Test.YtbkagnhficmdhaaDoorWordG
import Derived.Deep.RegionHeld3
namespace Go.Proofs.YtbkagnhficmdhaaDoor
open Go.ChangeShapes Go.WideShapes Go.ChangeAt Go.RowKit
set_option linter.unusedVariables false
set_option linter.unusedSimpArgs false

theorem ent_isHexDigit : Enters Tryd.prog 44 := enters_of Tryd.func44 (by kernel_rfl) rfl

set_option maxHeartbeats 2000000 in
set_option maxRecDepth 100000 in
theorem cls_isHexDigit : ClassBy 44 hexB := by
  intro c w hc
  have L := Lib.hid (show hexB c = (digN c || (decide (65 ≤ c) && decide (c ≤ 70))) from rfl)
  have C1 := Lib.hid (cls_isDigit c w hc)
  generalize hexB c = b at *
  cases h1 : digN c
  · rw [h1] at C1 L
    have L2 := Lib.hid (fun r (h : (r = true ↔ (65 ≤ c ∧ c ≤ 70))) => show r = b from by rw [L.out, Bool.false_or]; exact Bool.eq_iff_iff.2 (by simp only [Bool.and_eq_true, decide_eq_true_eq]; exact h))
    go_enter Tryd.func44, Tryd.ntmps44
    go_wp2_with fail
    refine C1.out.mono ?_
    rintro e w1 ⟨rfl, rfl⟩
    go_wp2_with fail
    all_goals go_ret
    all_goals refine ⟨?_, rfl⟩
    all_goals exact congrArg (fun b => Ending.returned (.bool b)) (L2.out _ (by
      simp only [Bool.or_eq_true, Bool.and_eq_true, decide_eq_true_eq, beq_iff_eq, Bool.false_eq_true, true_iff, false_iff]
      omega))
  · rw [h1] at C1 L
    go_enter Tryd.func44, Tryd.ntmps44
    go_wp2_with fail
    refine C1.out.mono ?_
    rintro e w1 ⟨rfl, rfl⟩
    go_wp2_with fail
    go_ret
    exact ⟨by rw [L.out]; rfl, rfl⟩

theorem keepW {g z : Nat} {s : ByteArray} {a : Nat} {w y y' : World} (h : y.cell? ⟨g, 0, none⟩ = some (.string s) ∧ Whole y g scT #[.string s, .int .i64 a] ∧ Whole y z gsT #[.int .i64 0, .int .i64 0, .int .i64 0, .string ⟨#[]⟩, .int .i32 0] ∧ Sv g w y) (hb : Below y.heap.size y y') :
    y'.cell? ⟨g, 0, none⟩ = some (.string s) ∧ Whole y' g scT #[.string s, .int .i64 a] ∧ Whole y' z gsT #[.int .i64 0, .int .i64 0, .int .i64 0, .string ⟨#[]⟩, .int .i32 0] ∧ Sv g w y' := by
  obtain ⟨h0, h1, h2, h3⟩ := h
  have h1' := h1.below hb h1.lt
  exact ⟨h1'.cell 0, h1', h2.below hb h2.lt, h3.trans (.of_below hb (Nat.le_refl _))⟩

set_option maxHeartbeats 8000000 in
set_option maxRecDepth 100000 in
theorem readWord_any (s : ByteArray) (g a : Nat) (w : World) (hQ : Whole w g scT #[.string s, .int .i64 a]) (hs : s.size ≤ 1000000) (ha : a < s.size) : Calls Tryd.prog 25 #[.pointer (some ⟨g, 0, none⟩)] w (ScPost w g s (hexP s a)) := by
  have hg := hQ.lt
  have A := Lib.hid (hQ.alloc (.cells #[.int .i64 0, .int .i64 0, .int .i64 0, .string ⟨#[]⟩, .int .i32 0] gsT))
  have Z := Lib.hid (Whole.made w gsT #[.int .i64 0, .int .i64 0, .int .i64 0, .string ⟨#[]⟩, .int .i32 0] _ rfl)
  have V := Lib.hid ((Sv.refl g w).alloc (.cells #[.int .i64 0, .int .i64 0, .int .i64 0, .string ⟨#[]⟩, .int .i32 0] gsT))
  have a0 : (w.alloc (.cells #[.int .i64 0, .int .i64 0, .int .i64 0, .string ⟨#[]⟩, .int .i32 0] gsT)).cell? ⟨g, 0, none⟩ = some (.string s) := A.out.cell 0
  have a1 : (w.alloc (.cells #[.int .i64 0, .int .i64 0, .int .i64 0, .string ⟨#[]⟩, .int .i32 0] gsT)).cell? ⟨g, 1, none⟩ = some (.int .i64 a) := A.out.cell 1
  have hpad := padded_hex s (k := a + 1) ha
  have NP := Lib.hid (hexP_real s ha (fun h => (hpad (by omega)).2))
  generalize hexP s a = p at *
  have hb := endOf_bound hexB (s := s) (k := a + 1) ha
  have C := Lib.hid (fun (k : Nat) (hk : k = a + 1) => behind_any ent_isHexDigit cls_isHexDigit s a g k (w.alloc (.cells #[.int .i64 0, .int .i64 0, .int .i64 0, .string ⟨#[]⟩, .int .i32 0] gsT)) A.out hs (by omega))
  have CC := Lib.hid (show Calls Tryd.prog 40 #[.pointer (some ⟨g, 0, none⟩), .int .i64 ((a : Int) + 1), .func (.func 44) #[] #[]] (w.alloc (.cells #[.int .i64 0, .int .i64 0, .int .i64 0, .string ⟨#[]⟩, .int .i32 0] gsT)) fun e w' => e = .returned (.int .i64 (endOf hexB s (a + 1))) ∧ (w.alloc (.cells #[.int .i64 0, .int .i64 0, .int .i64 0, .string ⟨#[]⟩, .int .i32 0] gsT)) = w' from C.out (a + 1) rfl)
  clear C
  have RBY := Lib.hid (run_bytes s (k := a + 1) ha)
  have PAD := Lib.hid hpad
  have PSZ := Lib.hid (fun h => padded_size s hb.1 hb.2 h)
  clear hpad
  unfold padded at PAD PSZ
  generalize realH s (a + 1) = n at *
  generalize endOf hexB s (a + 1) = t at *
  have htI : (a : Int) + 1 ≤ t := by omega
  have haI : (a : Int) < s.size := by omega
  unfold ScPost
  go_enter Tryd.func25, Tryd.ntmps25
  go_wp2_with fail
  generalize (w.alloc (.cells #[.int .i64 0, .int .i64 0, .int .i64 0, .string ⟨#[]⟩, .int .i32 0] gsT)) = W at *
  refine CC.out.mono ?_
  rintro e w1 ⟨rfl, rfl⟩
  clear CC
  by_cases h1 : t = a + 1
  · have d1 : decide ((t : Int) - ((a : Int) + 1) < 1) = true := decide_eq_true (by omega)
    rw [if_pos (.inl h1)] at NP
    clear h1
    have RX := Lib.hid (fun (W : World) (hA : Whole W g scT #[.string s, .int .i64 a]) => show Calls Tryd.prog 19 #[.pointer (some ⟨g, 0, none⟩), .int .i64 t, .int .i64 80] W fun e w' => e = .returned (.tuple #[sgnV (badS a t), .int .i64 80]) ∧ Sv g W w' ∧ Whole w' g scT #[.string s, .int .i64 (badS a t : Sgn).to] from reject_any s g a t 80 W hA)
    generalize (badS a t : Sgn) = x at NP RX
    go_wp2_with fail
    refine (RX.out _ (A.out)).mono ?_
    rintro e w1 ⟨rfl, hv, hq⟩
    have Z1 := Lib.hid (hv.whole (Z.out) (by omega))
    have V1 := Lib.hid (Sv.trans (V.out) hv)
    have A1 := Lib.hid hq
    clear hv hq
    have q0 : w1.cell? ⟨w.heap.size, 0, none⟩ = some (.int .i64 0) := Z1.out.cell 0
    have f0 := Z1.out.free 0
    have q1 : w1.cell? ⟨w.heap.size, 1, none⟩ = some (.int .i64 0) := Z1.out.cell 1
    have f1 := Z1.out.free 1
    have q2 : w1.cell? ⟨w.heap.size, 2, none⟩ = some (.int .i64 0) := Z1.out.cell 2
    have f2 := Z1.out.free 2
    have q3 : w1.cell? ⟨w.heap.size, 3, none⟩ = some (.string ⟨#[]⟩) := Z1.out.cell 3
    have f3 := Z1.out.free 3
    have q4 : w1.cell? ⟨w.heap.size, 4, none⟩ = some (.int .i32 0) := Z1.out.cell 4
    have f4 := Z1.out.free 4
    go_wp2_with fail
    refine bodyPost_ret (v := .tuple #[sgnV x, .int .i64 80]) ?_ rfl ⟨by rw [NP.out], V1.out.set5 _ (Nat.le_refl _) _ _ _ _ _, by rw [NP.out]; exact A1.out.far5 _ (by omega) _ _ _ _ _⟩
    simp [results, Tryd.results25, go_sem, q0, q1, q2, q3, q4]
  · have d1 : decide ((t : Int) - ((a : Int) + 1) < 1) = false := decide_eq_false (by omega)
    by_cases h2 : a + 9 < t
    · have d2 : decide ((8 : Int) < (t : Int) - ((a : Int) + 1)) = true := decide_eq_true (by omega)
      rw [if_pos (.inr h2)] at NP
      have RX := Lib.hid (fun (W : World) (hA : Whole W g scT #[.string s, .int .i64 a]) => show Calls Tryd.prog 19 #[.pointer (some ⟨g, 0, none⟩), .int .i64 t, .int .i64 80] W fun e w' => e = .returned (.tuple #[sgnV (badS a t), .int .i64 80]) ∧ Sv g W w' ∧ Whole w' g scT #[.string s, .int .i64 (badS a t : Sgn).to] from reject_any s g a t 80 W hA)
      generalize (badS a t : Sgn) = x at NP RX
      go_wp2_with fail
      refine (RX.out _ (A.out)).mono ?_
      rintro e w1 ⟨rfl, hv, hq⟩
      have Z1 := Lib.hid (hv.whole (Z.out) (by omega))
      have V1 := Lib.hid (Sv.trans (V.out) hv)
      have A1 := Lib.hid hq
      clear hv hq
      have q0 : w1.cell? ⟨w.heap.size, 0, none⟩ = some (.int .i64 0) := Z1.out.cell 0
      have f0 := Z1.out.free 0
      have q1 : w1.cell? ⟨w.heap.size, 1, none⟩ = some (.int .i64 0) := Z1.out.cell 1
      have f1 := Z1.out.free 1
      have q2 : w1.cell? ⟨w.heap.size, 2, none⟩ = some (.int .i64 0) := Z1.out.cell 2
      have f2 := Z1.out.free 2
      have q3 : w1.cell? ⟨w.heap.size, 3, none⟩ = some (.string ⟨#[]⟩) := Z1.out.cell 3
      have f3 := Z1.out.free 3
      have q4 : w1.cell? ⟨w.heap.size, 4, none⟩ = some (.int .i32 0) := Z1.out.cell 4
      have f4 := Z1.out.free 4
      go_wp2_with fail
      refine bodyPost_ret (v := .tuple #[sgnV x, .int .i64 80]) ?_ rfl ⟨by rw [NP.out], V1.out.set5 _ (Nat.le_refl _) _ _ _ _ _, by rw [NP.out]; exact A1.out.far5 _ (by omega) _ _ _ _ _⟩
      simp [results, Tryd.results25, go_sem, q0, q1, q2, q3, q4]
    · have d2 : decide ((8 : Int) < (t : Int) - ((a : Int) + 1)) = false := decide_eq_false (by omega)
      rw [if_neg (by omega)] at NP
      obtain ⟨p1, p2, p3⟩ := PAD.out (by omega)
      have hsz := PSZ.out (by omega)
      have hat : a + 1 ≤ t := by omega
      have RP := Lib.hid (fun W => show Calls Tryd.prog 45 #[.string ⟨#[48]⟩, .int .i64 ((8 : Int) - ((t : Int) - ((a : Int) + 1)))] W fun e w' => e = .returned (.string ⟨(Lib.repeatL [48] (8 - (t - (a + 1)))).toArray⟩) ∧ Below W.heap.size W w' from by
        have h := Tryd.strings_Repeat ⟨#[48]⟩ (8 - (t - (a + 1))) W (by omega) (by show 1 * _ ≤ _; omega)
        rw [show (((8 - (t - (a + 1)) : Nat)) : Int) = (8 : Int) - ((t : Int) - ((a : Int) + 1)) by omega] at h
        exact h)
      have TLW := Lib.hid (fun W => Tryd.strings_ToLower_ascii (s.extract (a + 1) t) W (by rw [ByteArray.size_extract]; omega) (fun j b hj => by
        have := RBY.out b (List.mem_of_getElem? hj)
        unfold hexB digN at this
        simp only [Bool.or_eq_true, Bool.and_eq_true, decide_eq_true_eq] at this
        omega))
      clear RBY PAD PSZ
      generalize Lib.repeatL [48] (8 - (t - (a + 1))) = l1 at *
      generalize Lib.toLowerA (s.extract (a + 1) t).data.toList = l2 at *
      have PH := Lib.hid (fun W => parsehex_any (⟨l1.toArray⟩ ++ ⟨l2.toArray⟩) W hsz)
      rw [p1] at PH
      have S32 := sgn32_wrap n p2 p3
      have PS := Lib.hid p1
      clear p1
      have RX := Lib.hid (fun (W : World) (hA : Whole W g scT #[.string s, .int .i64 a]) => show Calls Tryd.prog 20 #[.pointer (some ⟨g, 0, none⟩), .int .i64 2, .int .i64 t, .int .i32 (sgn32 n)] W fun e w' => e = .returned (.tuple #[sgnV (⟨2, a, t, s.extract a t, (sgn32 n)⟩), .int .i64 0]) ∧ Sv g W w' ∧ Whole w' g scT #[.string s, .int .i64 (⟨2, a, t, s.extract a t, (sgn32 n)⟩ : Sgn).to] from take_any s g a t 2 (sgn32 n) W hA hs (by omega) (by omega))
      generalize (⟨2, a, t, s.extract a t, (sgn32 n)⟩ : Sgn) = x at NP RX
      have hs12 : (⟨l1.toArray⟩ : ByteArray).size + (⟨l2.toArray⟩ : ByteArray).size = 8 := by rw [← ByteArray.size_append]; exact hsz
      generalize (⟨l1.toArray⟩ : ByteArray) = x1 at *
      generalize (⟨l2.toArray⟩ : ByteArray) = x2 at *
      have hx1 : x1.size ≤ 8 := by omega
      have hx2 : x2.size ≤ 8 := by omega
      have hbt := hb.2
      have hno : ¬ (9223372036854775807 < x1.size + x2.size) := by omega
      have hadd : ∀ W : World, (Op.stringOp .add x1 x2).run Tryd.prog W = .ok (.string (x1 ++ x2)) W := fun W => run_string_add_sum W x1 x2 (by omega)
      clear hs12
      go_wp2_with fail
      have K : W.cell? ⟨g, 0, none⟩ = some (.string s) ∧ Whole W g scT #[.string s, .int .i64 a] ∧ Whole W w.heap.size gsT #[.int .i64 0, .int .i64 0, .int .i64 0, .string ⟨#[]⟩, .int .i32 0] ∧ Sv g w W := ⟨a0, A.out, Z.out, V.out⟩
      clear a0 a1 A Z V PS hsz
      have hsl : ∀ W, (Instr.slice 9 (.string s) (some (.int .i64 ((a : Int) + 1))) (some (.int .i64 (t : Int))) none).run Tryd.prog W = .ok (.string (s.extract (a + 1) t)) W := fun W => by
        have h1 := run_slice_string W 9 s .i64 .i64 ((a : Int) + 1) (t : Int) Tryd.underlying9 (by omega) (by omega) (by omega)
        rw [show ((t : Int)).toNat = t by omega, show ((a : Int) + 1).toNat = a + 1 by omega] at h1
        exact h1
      have hw8 : IntKind.i64.wrap ((8 : Int) - ((t : Int) - ((a : Int) + 1))) = (8 : Int) - ((t : Int) - ((a : Int) + 1)) := by rw [IntKind.wrap_i64]; omega
      go_region_held3 (fun y => y.cell? ⟨g, 0, none⟩ = some (.string s) ∧ Whole y g scT #[.string s, .int .i64 a] ∧ Whole y w.heap.size gsT #[.int .i64 0, .int .i64 0, .int .i64 0, .string ⟨#[]⟩, .int .i32 0] ∧ Sv g w y)
        (first
          | assumption
          | exact keepW (by assumption) (Below.refl _ _).drew
          | exact keepW (by assumption) hbm)
        (first | (go_at_call 45; refine (RP.out _).mono ?_; rintro e w' ⟨rfl, hbm⟩) | (go_at_call 46; refine (TLW.out _).mono ?_; rintro e w' ⟨rfl, hbm⟩))
      obtain ⟨_, A, Z, V⟩ := (show _ ∧ Whole w' g scT #[.string s, .int .i64 a] ∧ Whole w' w.heap.size gsT #[.int .i64 0, .int .i64 0, .int .i64 0, .string ⟨#[]⟩, .int .i32 0] ∧ Sv g w w' from by assumption)
      replace A := Lib.hid A
      replace Z := Lib.hid Z
      replace V := Lib.hid V
      go_wp2_with fail
      refine (PH.out _).mono ?_
      rintro e w2 ⟨rfl, rfl⟩
      go_wp2_with fail
      refine (RX.out _ (A.out)).mono ?_
      rintro e w1 ⟨rfl, hv, hq⟩
      have Z1 := Lib.hid (hv.whole (Z.out) (by omega))
      have V1 := Lib.hid (Sv.trans (V.out) hv)
      have A1 := Lib.hid hq
      clear hv hq
      have q0 : w1.cell? ⟨w.heap.size, 0, none⟩ = some (.int .i64 0) := Z1.out.cell 0
      have f0 := Z1.out.free 0
      have q1 : w1.cell? ⟨w.heap.size, 1, none⟩ = some (.int .i64 0) := Z1.out.cell 1
      have f1 := Z1.out.free 1
      have q2 : w1.cell? ⟨w.heap.size, 2, none⟩ = some (.int .i64 0) := Z1.out.cell 2
      have f2 := Z1.out.free 2
      have q3 : w1.cell? ⟨w.heap.size, 3, none⟩ = some (.string ⟨#[]⟩) := Z1.out.cell 3
      have f3 := Z1.out.free 3
      have q4 : w1.cell? ⟨w.heap.size, 4, none⟩ = some (.int .i32 0) := Z1.out.cell 4
      have f4 := Z1.out.free 4
      go_wp2_with fail
      refine bodyPost_ret (v := .tuple #[sgnV x, .int .i64 0]) ?_ rfl ⟨by rw [NP.out], V1.out.set5 _ (Nat.le_refl _) _ _ _ _ _, by rw [NP.out]; exact A1.out.far5 _ (by omega) _ _ _ _ _⟩
      simp [results, Tryd.results25, go_sem, q0, q1, q2, q3, q4]
end Go.Proofs.YtbkagnhficmdhaaDoor
