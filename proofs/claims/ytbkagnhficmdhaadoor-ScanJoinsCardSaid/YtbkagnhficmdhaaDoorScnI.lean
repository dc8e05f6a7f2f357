/- Scan: the program's readName. -/
import Derived.Test.YtbkagnhficmdhaaDoorScnH
import Derived.Test.YtbkagnhficmdhaaDoorScnC
import Derived.BigQuiet
import Derived.Deep.QuietTactic
namespace Go.Proofs.YtbkagnhficmdhaaDoor
open Go.ChangeShapes Go.WideShapes Go.ChangeAt Go.RowKit
set_option linter.unusedVariables false
set_option linter.unusedSimpArgs false

theorem ent_isNamePart : Enters Tryd.prog 41 := enters_of Tryd.func41 (by kernel_rfl) rfl

set_option maxHeartbeats 2000000 in
set_option maxRecDepth 100000 in
theorem cls_isNamePart : ClassBy 41 wordN := by
  intro c w hc
  have L := Lib.hid (show wordN c = (letN c || digN c) from rfl)
  have C1 := Lib.hid (cls_isLetter c w hc)
  have C2 := Lib.hid (cls_isDigit c w hc)
  generalize wordN c = b at *
  cases h1 : letN c
  · rw [h1] at C1 L
    go_enter Tryd.func41, Tryd.ntmps41
    go_wp2_with fail
    refine C1.out.mono ?_
    rintro e w1 ⟨rfl, rfl⟩
    go_wp2_with fail
    refine C2.out.mono ?_
    rintro e w1 ⟨rfl, rfl⟩
    go_wp2_with fail
    go_ret
    exact ⟨by rw [L.out]; rfl, rfl⟩
  · rw [h1] at C1 L
    go_enter Tryd.func41, Tryd.ntmps41
    go_wp2_with fail
    refine C1.out.mono ?_
    rintro e w1 ⟨rfl, rfl⟩
    go_wp2_with fail
    go_ret
    exact ⟨by rw [L.out]; rfl, rfl⟩

/-- The name that begins at a place. -/
def nameP (s : ByteArray) (f : Nat) : Sgn × Int :=
  if 32 < endOf wordN s f - f then (badS f (endOf wordN s f), 140)
  else if keyB (s.extract f (endOf wordN s f)) = true then (⟨5, f, endOf wordN s f, s.extract f (endOf wordN s f), 0⟩, 0)
  else (⟨1, f, endOf wordN s f, s.extract f (endOf wordN s f), 0⟩, 0)

set_option maxHeartbeats 8000000 in
set_option maxRecDepth 100000 in
theorem readName_any (s : ByteArray) (g a : Nat) (w : World) (hQ : Whole w g scT #[.string s, .int .i64 a]) (hs : s.size ≤ 1000000) (ha : a < s.size) : Calls Tryd.prog 22 #[.pointer (some ⟨g, 0, none⟩)] w (ScPost w g s (nameP s a)) := by
  have hg := hQ.lt
  have A := Lib.hid (hQ.alloc (.cells #[.int .i64 0, .int .i64 0, .int .i64 0, .string ⟨#[]⟩, .int .i32 0] gsT))
  have Z := Lib.hid (Whole.made w gsT #[.int .i64 0, .int .i64 0, .int .i64 0, .string ⟨#[]⟩, .int .i32 0] _ rfl)
  have V := Lib.hid ((Sv.refl g w).alloc (.cells #[.int .i64 0, .int .i64 0, .int .i64 0, .string ⟨#[]⟩, .int .i32 0] gsT))
  have a0 : (w.alloc (.cells #[.int .i64 0, .int .i64 0, .int .i64 0, .string ⟨#[]⟩, .int .i32 0] gsT)).cell? ⟨g, 0, none⟩ = some (.string s) := A.out.cell 0
  have a1 : (w.alloc (.cells #[.int .i64 0, .int .i64 0, .int .i64 0, .string ⟨#[]⟩, .int .i32 0] gsT)).cell? ⟨g, 1, none⟩ = some (.int .i64 a) := A.out.cell 1
  have NP := Lib.hid (show nameP s a = if 32 < endOf wordN s a - a then (badS a (endOf wordN s a), 140) else if keyB (s.extract a (endOf wordN s a)) = true then (⟨5, a, endOf wordN s a, s.extract a (endOf wordN s a), 0⟩, 0) else (⟨1, a, endOf wordN s a, s.extract a (endOf wordN s a), 0⟩, 0) from rfl)
  generalize nameP s a = p at *
  have hb := endOf_bound wordN (Nat.le_of_lt ha)
  have C := Lib.hid (behind_any ent_isNamePart cls_isNamePart s a g a (w.alloc (.cells #[.int .i64 0, .int .i64 0, .int .i64 0, .string ⟨#[]⟩, .int .i32 0] gsT)) A.out hs (Nat.le_of_lt ha))
  generalize endOf wordN s a = t at *
  have htI : (a : Int) ≤ t := by omega
  unfold ScPost
  go_enter Tryd.func22, Tryd.ntmps22
  go_wp2_with fail
  generalize (w.alloc (.cells #[.int .i64 0, .int .i64 0, .int .i64 0, .string ⟨#[]⟩, .int .i32 0] gsT)) = W at *
  refine C.out.mono ?_
  rintro e w1 ⟨rfl, rfl⟩
  clear C
  by_cases h1 : 32 < t - a
  · have d1 : decide ((32 : Int) < (t : Int) - a) = true := decide_eq_true (by omega)
    rw [if_pos h1] at NP
    have RX := Lib.hid (fun (W : World) (hA : Whole W g scT #[.string s, .int .i64 a]) => show Calls Tryd.prog 19 #[.pointer (some ⟨g, 0, none⟩), .int .i64 t, .int .i64 140] W fun e w' => e = .returned (.tuple #[sgnV (badS a t), .int .i64 140]) ∧ Sv g W w' ∧ Whole w' g scT #[.string s, .int .i64 (badS a t : Sgn).to] from reject_any s g a t 140 W hA)
    generalize (badS a t : Sgn) = x at NP RX
    go_wp2_with fail
    refine (RX.out _ (A.out)).mono ?_
    rintro e w1 ⟨rfl, hv, hq⟩
    have Z1 := Lib.hid (hv.whole (Z.out) (by omega))
    have V1 := Lib.hid (Sv.trans (V.out) hv)
    have A1 := Lib.hid hq
    clear hv hq
    have q0 : w1.cell? ⟨w.heap.size, 0, none⟩ = some (.int .i64 0) := Z1.out.cell 0
    have f0 := Z1.out.free 0
    have q1 : w1.cell? ⟨w.heap.size, 1, none⟩ = some (.int .i64 0) := Z1.out.cell 1
    have f1 := Z1.out.free 1
    have q2 : w1.cell? ⟨w.heap.size, 2, none⟩ = some (.int .i64 0) := Z1.out.cell 2
    have f2 := Z1.out.free 2
    have q3 : w1.cell? ⟨w.heap.size, 3, none⟩ = some (.string ⟨#[]⟩) := Z1.out.cell 3
    have f3 := Z1.out.free 3
    have q4 : w1.cell? ⟨w.heap.size, 4, none⟩ = some (.int .i32 0) := Z1.out.cell 4
    have f4 := Z1.out.free 4
    go_wp2_with fail
    refine bodyPost_ret (v := .tuple #[sgnV x, .int .i64 140]) ?_ rfl ⟨by rw [NP.out], V1.out.set5 _ (Nat.le_refl _) _ _ _ _ _, by rw [NP.out]; exact A1.out.far5 _ (by omega) _ _ _ _ _⟩
    simp [results, Tryd.results22, go_sem, q0, q1, q2, q3, q4]
  · have d1 : decide ((32 : Int) < (t : Int) - a) = false := decide_eq_false (by omega)
    rw [if_neg h1] at NP
    have IK := Lib.hid (fun W => iskey_any (s.extract a t) W)
    cases h2 : keyB (s.extract a t)
    · rw [if_neg (by rw [h2]; decide)] at NP
      rw [h2] at IK
      have RX := Lib.hid (fun (W : World) (hA : Whole W g scT #[.string s, .int .i64 a]) => show Calls Tryd.prog 20 #[.pointer (some ⟨g, 0, none⟩), .int .i64 1, .int .i64 t, .int .i32 0] W fun e w' => e = .returned (.tuple #[sgnV (⟨1, a, t, s.extract a t, 0⟩), .int .i64 0]) ∧ Sv g W w' ∧ Whole w' g scT #[.string s, .int .i64 (⟨1, a, t, s.extract a t, 0⟩ : Sgn).to] from take_any s g a t 1 0 W hA hs (by omega) (by omega))
      generalize (⟨1, a, t, s.extract a t, 0⟩ : Sgn) = x at NP RX
      go_wp2_with fail
      go_quiet (first | (go_at_call 15; refine Calls.quiet_of_same ((IK.out _).mono (fun _ _ h => ⟨h.1, h.2.symm⟩))))
      go_wp2_with fail
      refine (RX.out _ (A.out.drawn _)).mono ?_
      rintro e w1 ⟨rfl, hv, hq⟩
      have Z1 := Lib.hid (hv.whole (Z.out.drawn _) (by omega))
      have V1 := Lib.hid (Sv.trans (V.out.drawn _) hv)
      have A1 := Lib.hid hq
      clear hv hq
      have q0 : w1.cell? ⟨w.heap.size, 0, none⟩ = some (.int .i64 0) := Z1.out.cell 0
      have f0 := Z1.out.free 0
      have q1 : w1.cell? ⟨w.heap.size, 1, none⟩ = some (.int .i64 0) := Z1.out.cell 1
      have f1 := Z1.out.free 1
      have q2 : w1.cell? ⟨w.heap.size, 2, none⟩ = some (.int .i64 0) := Z1.out.cell 2
      have f2 := Z1.out.free 2
      have q3 : w1.cell? ⟨w.heap.size, 3, none⟩ = some (.string ⟨#[]⟩) := Z1.out.cell 3
      have f3 := Z1.out.free 3
      have q4 : w1.cell? ⟨w.heap.size, 4, none⟩ = some (.int .i32 0) := Z1.out.cell 4
      have f4 := Z1.out.free 4
      go_wp2_with fail
      refine bodyPost_ret (v := .tuple #[sgnV x, .int .i64 0]) ?_ rfl ⟨by rw [NP.out], V1.out.set5 _ (Nat.le_refl _) _ _ _ _ _, by rw [NP.out]; exact A1.out.far5 _ (by omega) _ _ _ _ _⟩
      simp [results, Tryd.results22, go_sem, q0, q1, q2, q3, q4]
    · rw [if_pos h2] at NP
      rw [h2] at IK
      have RX := Lib.hid (fun (W : World) (hA : Whole W g scT #[.string s, .int .i64 a]) => show Calls Tryd.prog 20 #[.pointer (some ⟨g, 0, none⟩), .int .i64 5, .int .i64 t, .int .i32 0] W fun e w' => e = .returned (.tuple #[sgnV (⟨5, a, t, s.extract a t, 0⟩), .int .i64 0]) ∧ Sv g W w' ∧ Whole w' g scT #[.string s, .int .i64 (⟨5, a, t, s.extract a t, 0⟩ : Sgn).to] from take_any s g a t 5 0 W hA hs (by omega) (by omega))
      generalize (⟨5, a, t, s.extract a t, 0⟩ : Sgn) = x at NP RX
      go_wp2_with fail
      go_quiet (first | (go_at_call 15; refine Calls.quiet_of_same ((IK.out _).mono (fun _ _ h => ⟨h.1, h.2.symm⟩))))
      go_wp2_with fail
      refine (RX.out _ (A.out.drawn _)).mono ?_
      rintro e w1 ⟨rfl, hv, hq⟩
      have Z1 := Lib.hid (hv.whole (Z.out.drawn _) (by omega))
      have V1 := Lib.hid (Sv.trans (V.out.drawn _) hv)
      have A1 := Lib.hid hq
      clear hv hq
      have q0 : w1.cell? ⟨w.heap.size, 0, none⟩ = some (.int .i64 0) := Z1.out.cell 0
      have f0 := Z1.out.free 0
      have q1 : w1.cell? ⟨w.heap.size, 1, none⟩ = some (.int .i64 0) := Z1.out.cell 1
      have f1 := Z1.out.free 1
      have q2 : w1.cell? ⟨w.heap.size, 2, none⟩ = some (.int .i64 0) := Z1.out.cell 2
      have f2 := Z1.out.free 2
      have q3 : w1.cell? ⟨w.heap.size, 3, none⟩ = some (.string ⟨#[]⟩) := Z1.out.cell 3
      have f3 := Z1.out.free 3
      have q4 : w1.cell? ⟨w.heap.size, 4, none⟩ = some (.int .i32 0) := Z1.out.cell 4
      have f4 := Z1.out.free 4
      go_wp2_with fail
      refine bodyPost_ret (v := .tuple #[sgnV x, .int .i64 0]) ?_ rfl ⟨by rw [NP.out], V1.out.set5 _ (Nat.le_refl _) _ _ _ _ _, by rw [NP.out]; exact A1.out.far5 _ (by omega) _ _ _ _ _⟩
      simp [results, Tryd.results22, go_sem, q0, q1, q2, q3, q4]

end Go.Proofs.YtbkagnhficmdhaaDoor
