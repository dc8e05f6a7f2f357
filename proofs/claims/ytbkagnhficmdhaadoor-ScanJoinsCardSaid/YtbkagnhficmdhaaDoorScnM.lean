/- Scan: the program's readText. -/
import Derived.Test.YtbkagnhficmdhaaDoorScnH
import Derived.Test.YtbkagnhficmdhaaDoorScnG
import Derived.BigQuiet
import Derived.Deep.QuietTactic
namespace Go.Proofs.YtbkagnhficmdhaaDoor
open Go.ChangeShapes Go.WideShapes Go.ChangeAt Go.RowKit
set_option linter.unusedVariables false
set_option linter.unusedSimpArgs false

theorem ent_isTextPart : Enters Tryd.prog 49 := enters_of Tryd.func49 (by kernel_rfl) rfl

set_option maxHeartbeats 2000000 in
set_option maxRecDepth 100000 in
theorem cls_isTextPart : ClassBy 49 textN := by
  intro c w hc
  have L := Lib.hid (show textN c = (decide (32 ≤ c) && (decide (c ≤ 126) && !decide (c = 34))) from rfl)
  have P := Lib.hid (show prnN c = (decide (32 ≤ c) && decide (c ≤ 126)) from rfl)
  have C1 := Lib.hid (cls_isPrintable c w hc)
  generalize textN c = b at *
  cases h1 : prnN c
  · rw [h1] at C1 P
    go_enter Tryd.func49, Tryd.ntmps49
    go_wp2_with fail
    refine C1.out.mono ?_
    rintro e w1 ⟨rfl, rfl⟩
    go_wp2_with fail
    go_ret
    exact ⟨by rw [L.out, ← Bool.and_assoc, ← P.out]; rfl, rfl⟩
  · rw [h1] at C1 P
    rcases (show c = 34 ∨ c ≠ 34 by omega) with h2 | h2
    · have e1 : ((c : Int) != 34) = false := by rw [bne, beq_iff_eq.2 (by omega : (c : Int) = 34)]; rfl
      have H2 := Lib.hid h2
      clear h2
      go_enter Tryd.func49, Tryd.ntmps49
      go_wp2_with fail
      refine C1.out.mono ?_
      rintro e w1 ⟨rfl, rfl⟩
      go_wp2_with fail
      go_ret
      exact ⟨by rw [L.out, ← Bool.and_assoc, ← P.out, decide_eq_true H2.out]; rfl, rfl⟩
    · have e1 : ((c : Int) != 34) = true := by rw [bne, beq_eq_false_iff_ne.2 (by omega : (c : Int) ≠ 34)]; rfl
      go_enter Tryd.func49, Tryd.ntmps49
      go_wp2_with fail
      refine C1.out.mono ?_
      rintro e w1 ⟨rfl, rfl⟩
      go_wp2_with fail
      go_ret
      exact ⟨by rw [L.out, ← Bool.and_assoc, ← P.out, decide_eq_false h2]; rfl, rfl⟩

theorem Whole.put5 {w : World} {b : Nat} {t : TypeId} {v0 v1 v2 v3 v4 : Value} (h : Whole w b t #[v0, v1, v2, v3, v4]) (u0 u1 u2 u3 u4 : Value) : Whole (((((w.setCell ⟨b, 0, none⟩ u0).setCell ⟨b, 1, none⟩ u1).setCell ⟨b, 2, none⟩ u2).setCell ⟨b, 3, none⟩ u3).setCell ⟨b, 4, none⟩ u4) b t #[u0, u1, u2, u3, u4] :=
  ((((h.store 0 u0).store 1 u1).store 2 u2).store 3 u3).store 4 u4

/-- The text that begins at a place. -/
def textP (s : ByteArray) (f : Nat) : Sgn × Int :=
  if endOf textN s (f + 1) = s.size ∨ byN s (endOf textN s (f + 1)) ≠ 34 then (badS f (endOf textN s (f + 1)), 82) else (⟨4, f, endOf textN s (f + 1) + 1, s.extract (f + 1) (endOf textN s (f + 1)), 0⟩, 0)

theorem inner_text (s : ByteArray) {a t : Nat} (h1 : a < t) (h2 : t < s.size) : (s.extract a (t + 1)).extract 1 (t - a) = s.extract (a + 1) t ∧ (s.extract a (t + 1)).size = t + 1 - a := by
  refine ⟨?_, by rw [ByteArray.size_extract]; omega⟩
  rw [ByteArray.extract_extract]
  congr 1
  omega

set_option maxHeartbeats 8000000 in
set_option maxRecDepth 100000 in
theorem readText_any (s : ByteArray) (g a : Nat) (w : World) (hQ : Whole w g scT #[.string s, .int .i64 a]) (hs : s.size ≤ 1000000) (ha : a < s.size) : Calls Tryd.prog 27 #[.pointer (some ⟨g, 0, none⟩)] w (ScPost w g s (textP s a)) := by
  have hg := hQ.lt
  have A := Lib.hid (hQ.alloc (.cells #[.int .i64 0, .int .i64 0, .int .i64 0, .string ⟨#[]⟩, .int .i32 0] gsT))
  have Z := Lib.hid (Whole.made w gsT #[.int .i64 0, .int .i64 0, .int .i64 0, .string ⟨#[]⟩, .int .i32 0] _ rfl)
  have V := Lib.hid ((Sv.refl g w).alloc (.cells #[.int .i64 0, .int .i64 0, .int .i64 0, .string ⟨#[]⟩, .int .i32 0] gsT))
  have a0 : (w.alloc (.cells #[.int .i64 0, .int .i64 0, .int .i64 0, .string ⟨#[]⟩, .int .i32 0] gsT)).cell? ⟨g, 0, none⟩ = some (.string s) := A.out.cell 0
  have a1 : (w.alloc (.cells #[.int .i64 0, .int .i64 0, .int .i64 0, .string ⟨#[]⟩, .int .i32 0] gsT)).cell? ⟨g, 1, none⟩ = some (.int .i64 a) := A.out.cell 1
  have NP := Lib.hid (show textP s a = if endOf textN s (a + 1) = s.size ∨ byN s (endOf textN s (a + 1)) ≠ 34 then (badS a (endOf textN s (a + 1)), 82) else (⟨4, a, endOf textN s (a + 1) + 1, s.extract (a + 1) (endOf textN s (a + 1)), 0⟩, 0) from rfl)
  generalize textP s a = p at *
  have hb := endOf_bound textN (s := s) (k := a + 1) ha
  have C := Lib.hid (fun (k : Nat) (hk : k = a + 1) => behind_any ent_isTextPart cls_isTextPart s a g k (w.alloc (.cells #[.int .i64 0, .int .i64 0, .int .i64 0, .string ⟨#[]⟩, .int .i32 0] gsT)) A.out hs (by omega))
  have CC := Lib.hid (show Calls Tryd.prog 40 #[.pointer (some ⟨g, 0, none⟩), .int .i64 ((a : Int) + 1), .func (.func 49) #[] #[]] (w.alloc (.cells #[.int .i64 0, .int .i64 0, .int .i64 0, .string ⟨#[]⟩, .int .i32 0] gsT)) fun e w' => e = .returned (.int .i64 (endOf textN s (a + 1))) ∧ (w.alloc (.cells #[.int .i64 0, .int .i64 0, .int .i64 0, .string ⟨#[]⟩, .int .i32 0] gsT)) = w' from C.out (a + 1) rfl)
  clear C
  generalize endOf textN s (a + 1) = t at *
  have htI : (a : Int) + 1 ≤ t := by omega
  unfold ScPost
  go_enter Tryd.func27, Tryd.ntmps27
  go_wp2_with fail
  generalize (w.alloc (.cells #[.int .i64 0, .int .i64 0, .int .i64 0, .string ⟨#[]⟩, .int .i32 0] gsT)) = W at *
  refine CC.out.mono ?_
  rintro e w1 ⟨rfl, rfl⟩
  clear CC
  by_cases hts : t < s.size
  · have d1 : ((t : Int) == s.size) = false := beq_eq_false_iff_ne.2 (by omega)
    have htS : (t : Int) < s.size := by omega
    have g1 : s[t].toNat = byN s t := (byN_get hts).symm
    have k1 := byN_lt s t
    generalize byN s t = c at *
    by_cases h34 : c = 34
    · have e1 : ((c : Int) != 34) = false := by rw [bne, beq_iff_eq.2 (by omega : (c : Int) = 34)]; rfl
      rw [if_neg (by omega)] at NP
      have RX := Lib.hid (fun (W : World) (hA : Whole W g scT #[.string s, .int .i64 a]) => show Calls Tryd.prog 20 #[.pointer (some ⟨g, 0, none⟩), .int .i64 4, .int .i64 ((t : Int) + 1), .int .i32 0] W fun e w' => e = .returned (.tuple #[sgnV ⟨4, a, t + 1, s.extract a (t + 1), 0⟩, .int .i64 0]) ∧ Sv g W w' ∧ Whole w' g scT #[.string s, .int .i64 ((t + 1 : Nat) : Int)] from take_any s g a (t + 1) 4 0 W hA hs (by omega) (by omega))
      obtain ⟨i1, i2⟩ := inner_text s (a := a) (t := t) (by omega) hts
      have I1 := Lib.hid i1
      have I2 := Lib.hid i2
      clear i1 i2
      generalize s.extract a (t + 1) = x at *
      go_wp2_with fail
      refine (RX.out _ A.out).mono ?_
      rintro e w1 ⟨rfl, hv, hq⟩
      have Z1 := Lib.hid (hv.whole Z.out (by omega))
      have V1 := Lib.hid (Sv.trans V.out hv)
      have A1 := Lib.hid hq
      have hz1 : w.heap.size < w1.heap.size := Nat.lt_of_lt_of_le Z.out.lt hv.size
      have hg1 : g < w1.heap.size := A1.out.lt
      clear hv hq
      obtain ⟨i3, i4⟩ : (2 : Nat) ≤ x.size ∧ x.size ≤ 1000000 := by rw [I2.out]; omega
      have y : Whole (w1.alloc (.cells #[.int .i64 4, .int .i64 a, .int .i64 ((t : Int) + 1), .string x, .int .i32 0] gsT)) w1.heap.size gsT #[.int .i64 4, .int .i64 a, .int .i64 ((t : Int) + 1), .string x, .int .i32 0] := Whole.made _ _ _ _ rfl
      have y3 := y.cell 3
      have x3 := y.free 3
      clear y
      have hsl : ∀ W, (Instr.slice 9 (.string x) (some (.int .i64 1)) (some (.int .i64 ((x.size : Int) - 1))) none).run Tryd.prog W = .ok (.string (s.extract (a + 1) t)) W := fun W => by
        have h1 := run_slice_string W 9 x .i64 .i64 1 ((x.size : Int) - 1) Tryd.underlying9 (by decide) (by omega) (by omega)
        rw [show ((x.size : Int) - 1).toNat = t - a by have := I2.out; omega, show ((1 : Int).toNat) = 1 from rfl, I1.out] at h1
        exact h1
      generalize s.extract (a + 1) t = inner at *
      have y : Whole (w1.alloc (.cells #[.int .i64 4, .int .i64 a, .int .i64 ((t : Int) + 1), .string inner, .int .i32 0] gsT)) w1.heap.size gsT #[.int .i64 4, .int .i64 a, .int .i64 ((t : Int) + 1), .string inner, .int .i32 0] := Whole.made _ _ _ _ rfl
      have i0 := y.cell 0
      have i1 := y.cell 1
      have i2 := y.cell 2
      have i3' := y.cell 3
      have i4' := y.cell 4
      clear y
      have q0 : w1.cell? ⟨w.heap.size, 0, none⟩ = some (.int .i64 0) := Z1.out.cell 0
      have f0 := Z1.out.free 0
      have q1 : w1.cell? ⟨w.heap.size, 1, none⟩ = some (.int .i64 0) := Z1.out.cell 1
      have f1 := Z1.out.free 1
      have q2 : w1.cell? ⟨w.heap.size, 2, none⟩ = some (.int .i64 0) := Z1.out.cell 2
      have f2 := Z1.out.free 2
      have q3 : w1.cell? ⟨w.heap.size, 3, none⟩ = some (.string ⟨#[]⟩) := Z1.out.cell 3
      have f3 := Z1.out.free 3
      have q4 : w1.cell? ⟨w.heap.size, 4, none⟩ = some (.int .i32 0) := Z1.out.cell 4
      have f4 := Z1.out.free 4
      go_wp2_with fail
      refine bodyPost_ret (v := .tuple #[sgnV ⟨4, a, t + 1, inner, 0⟩, .int .i64 0]) ?_ rfl ⟨by rw [NP.out], (V1.out.set5 _ (Nat.le_refl _) _ _ _ _ _).alloc _, by rw [NP.out]; exact (A1.out.far5 _ (by omega) _ _ _ _ _).alloc _⟩
      have R := (Z1.out.put5 (.int .i64 4) (.int .i64 a) (.int .i64 ((t : Int) + 1)) (.string inner) (.int .i32 0)).alloc (.cells #[.int .i64 4, .int .i64 a, .int .i64 ((t : Int) + 1), .string inner, .int .i32 0] gsT)
      have r0 := R.cell 0
      have r1 := R.cell 1
      have r2 := R.cell 2
      have r3 := R.cell 3
      have r4 := R.cell 4
      simp [results, Tryd.results27, go_sem, r0, r1, r2, r3, r4]
    · have e1 : ((c : Int) != 34) = true := by rw [bne, beq_eq_false_iff_ne.2 (by omega : (c : Int) ≠ 34)]; rfl
      rw [if_pos (.inr h34)] at NP
      have RX := Lib.hid (fun (W : World) (hA : Whole W g scT #[.string s, .int .i64 a]) => show Calls Tryd.prog 19 #[.pointer (some ⟨g, 0, none⟩), .int .i64 t, .int .i64 82] W fun e w' => e = .returned (.tuple #[sgnV (badS a t), .int .i64 82]) ∧ Sv g W w' ∧ Whole w' g scT #[.string s, .int .i64 (badS a t : Sgn).to] from reject_any s g a t 82 W hA)
      generalize (badS a t : Sgn) = x at NP RX
      go_wp2_with fail
      refine (RX.out _ (A.out)).mono ?_
      rintro e w1 ⟨rfl, hv, hq⟩
      have Z1 := Lib.hid (hv.whole (Z.out) (by omega))
      have V1 := Lib.hid (Sv.trans (V.out) hv)
      have A1 := Lib.hid hq
      clear hv hq
      have q0 : w1.cell? ⟨w.heap.size, 0, none⟩ = some (.int .i64 0) := Z1.out.cell 0
      have f0 := Z1.out.free 0
      have q1 : w1.cell? ⟨w.heap.size, 1, none⟩ = some (.int .i64 0) := Z1.out.cell 1
      have f1 := Z1.out.free 1
      have q2 : w1.cell? ⟨w.heap.size, 2, none⟩ = some (.int .i64 0) := Z1.out.cell 2
      have f2 := Z1.out.free 2
      have q3 : w1.cell? ⟨w.heap.size, 3, none⟩ = some (.string ⟨#[]⟩) := Z1.out.cell 3
      have f3 := Z1.out.free 3
      have q4 : w1.cell? ⟨w.heap.size, 4, none⟩ = some (.int .i32 0) := Z1.out.cell 4
      have f4 := Z1.out.free 4
      go_wp2_with fail
      refine bodyPost_ret (v := .tuple #[sgnV x, .int .i64 82]) ?_ rfl ⟨by rw [NP.out], V1.out.set5 _ (Nat.le_refl _) _ _ _ _ _, by rw [NP.out]; exact A1.out.far5 _ (by omega) _ _ _ _ _⟩
      simp [results, Tryd.results27, go_sem, q0, q1, q2, q3, q4]
  · have d1 : ((t : Int) == s.size) = true := beq_iff_eq.2 (by omega)
    rw [if_pos (.inl (by omega))] at NP
    have RX := Lib.hid (fun (W : World) (hA : Whole W g scT #[.string s, .int .i64 a]) => show Calls Tryd.prog 19 #[.pointer (some ⟨g, 0, none⟩), .int .i64 t, .int .i64 82] W fun e w' => e = .returned (.tuple #[sgnV (badS a t), .int .i64 82]) ∧ Sv g W w' ∧ Whole w' g scT #[.string s, .int .i64 (badS a t : Sgn).to] from reject_any s g a t 82 W hA)
    generalize (badS a t : Sgn) = x at NP RX
    go_wp2_with fail
    refine (RX.out _ (A.out)).mono ?_
    rintro e w1 ⟨rfl, hv, hq⟩
    have Z1 := Lib.hid (hv.whole (Z.out) (by omega))
    have V1 := Lib.hid (Sv.trans (V.out) hv)
    have A1 := Lib.hid hq
    clear hv hq
    have q0 : w1.cell? ⟨w.heap.size, 0, none⟩ = some (.int .i64 0) := Z1.out.cell 0
    have f0 := Z1.out.free 0
    have q1 : w1.cell? ⟨w.heap.size, 1, none⟩ = some (.int .i64 0) := Z1.out.cell 1
    have f1 := Z1.out.free 1
    have q2 : w1.cell? ⟨w.heap.size, 2, none⟩ = some (.int .i64 0) := Z1.out.cell 2
    have f2 := Z1.out.free 2
    have q3 : w1.cell? ⟨w.heap.size, 3, none⟩ = some (.string ⟨#[]⟩) := Z1.out.cell 3
    have f3 := Z1.out.free 3
    have q4 : w1.cell? ⟨w.heap.size, 4, none⟩ = some (.int .i32 0) := Z1.out.cell 4
    have f4 := Z1.out.free 4
    go_wp2_with fail
    refine bodyPost_ret (v := .tuple #[sgnV x, .int .i64 82]) ?_ rfl ⟨by rw [NP.out], V1.out.set5 _ (Nat.le_refl _) _ _ _ _ _, by rw [NP.out]; exact A1.out.far5 _ (by omega) _ _ _ _ _⟩
    simp [results, Tryd.results27, go_sem, q0, q1, q2, q3, q4]

end Go.Proofs.YtbkagnhficmdhaaDoor
