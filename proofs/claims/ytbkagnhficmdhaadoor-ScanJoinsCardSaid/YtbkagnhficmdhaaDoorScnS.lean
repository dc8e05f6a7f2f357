/- Scan: the program's New, Next. -/
import Derived.Test.YtbkagnhficmdhaaDoorScnH
import Derived.Test.YtbkagnhficmdhaaDoorScnI
import Derived.Test.YtbkagnhficmdhaaDoorScnJ
import Derived.Test.YtbkagnhficmdhaaDoorScnK
import Derived.Test.YtbkagnhficmdhaaDoorScnM
import Derived.Test.YtbkagnhficmdhaaDoorScnO
import Derived.Test.YtbkagnhficmdhaaDoorScnR
namespace Go.Proofs.YtbkagnhficmdhaaDoor
open Go.ChangeShapes Go.WideShapes Go.ChangeAt Go.RowKit
set_option linter.unusedVariables false
set_option linter.unusedSimpArgs false

theorem blF_open_end : ∀ (f : Nat) (s : ByteArray) (k d : Nat), k ≤ s.size → s.size - k ≤ f → (blF f s k d).2 = false → (blF f s k d).1 = s.size
  | 0, s, k, d, h, hf, _ => by
    show k = s.size
    omega
  | f + 1, s, k, d, h, hf, h2 => by
    unfold blF at h2 ⊢
    split at h2
    · rename_i h1
      rw [if_pos h1]
      split at h2
      · rename_i h3
        have := twoP_lt h3
        rw [if_pos h3]
        exact blF_open_end f s (k + 2) _ (by omega) (by omega) h2
      · rename_i h3
        rw [if_neg h3]
        split at h2
        · rename_i h4
          have := twoP_lt h4.2
          rw [if_pos h4]
          exact blF_open_end f s (k + 2) _ (by omega) (by omega) h2
        · rename_i h4
          rw [if_neg h4]
          split at h2
          · rename_i h5
            rw [if_pos h5]
            exact blF_open_end f s (k + 1) _ (by omega) (by omega) h2
          · cases h2
    · rename_i h1
      rw [if_neg h1]
      show k = s.size
      omega

theorem extract_none (s : ByteArray) (n : Nat) : s.extract n n = ⟨#[]⟩ := by
  apply ByteArray.ext
  rw [ByteArray.data_extract]
  simp
  omega

theorem signP_eq (s : ByteArray) (f : Nat) : signP s f = if letN (byN s f) = true then nameP s f else if digN (byN s f) = true then numP s f else if byN s f = 36 then hexP s f else if byN s f = 39 then letterP s f else if byN s f = 34 then textP s f else markP s f := rfl

set_option maxHeartbeats 2000000 in
set_option maxRecDepth 100000 in
theorem new_any (s : ByteArray) (w : World) (hs : s.size ≤ 1000000) : Calls Tryd.prog 12 #[.string s] w fun e w' => ∃ g, e = .returned (.pointer (some ⟨g, 0, none⟩)) ∧ w.heap.size ≤ g ∧ Whole w' g scT #[.string s, .int .i64 0] ∧ Below w.heap.size w w' := by
  have C := Lib.hid (fun W => clone_any s W hs)
  have B := Lib.hid ((Below.refl w.heap.size w).alloc (Nat.le_refl _) (.cells #[.string ⟨#[]⟩, .int .i64 0] scT))
  go_enter Tryd.func12, Tryd.ntmps12
  go_wp2_with fail
  refine (C.out _).mono ?_
  rintro e w1 ⟨rfl, hb⟩
  go_wp2_with fail
  go_ret
  exact ⟨_, rfl, hb.size, Whole.made _ _ _ _ rfl, hb.alloc hb.size _⟩

set_option maxHeartbeats 8000000 in
set_option maxRecDepth 100000 in
theorem next_any (s : ByteArray) (g a : Nat) (w : World) (hQ : Whole w g scT #[.string s, .int .i64 a]) (hs : s.size ≤ 1000000) (hk : a ≤ s.size) : Calls Tryd.prog 13 #[.pointer (some ⟨g, 0, none⟩)] w (ScPost w g s (nextP s a)) := by
  have hg := hQ.lt
  have A := Lib.hid (hQ.alloc (.cells #[.int .i64 0, .int .i64 0, .int .i64 0, .string ⟨#[]⟩, .int .i32 0] gsT))
  have Z := Lib.hid (Whole.made w gsT #[.int .i64 0, .int .i64 0, .int .i64 0, .string ⟨#[]⟩, .int .i32 0] _ rfl)
  have V := Lib.hid ((Sv.refl g w).alloc (.cells #[.int .i64 0, .int .i64 0, .int .i64 0, .string ⟨#[]⟩, .int .i32 0] gsT))
  have a0 : (w.alloc (.cells #[.int .i64 0, .int .i64 0, .int .i64 0, .string ⟨#[]⟩, .int .i32 0] gsT)).cell? ⟨g, 0, none⟩ = some (.string s) := A.out.cell 0
  have a1 : (w.alloc (.cells #[.int .i64 0, .int .i64 0, .int .i64 0, .string ⟨#[]⟩, .int .i32 0] gsT)).cell? ⟨g, 1, none⟩ = some (.int .i64 a) := A.out.cell 1
  have BB := Lib.hid (behindBlanks_any s g a (w.alloc (.cells #[.int .i64 0, .int .i64 0, .int .i64 0, .string ⟨#[]⟩, .int .i32 0] gsT)) A.out hs hk)
  have hcl_end := fun (h : (blanksP s a).2 = false) => blF_open_end s.size s a 0 hk (by omega) h
  have hbd := blanks_bound hk
  have NP := Lib.hid (show nextP s a = if (blanksP s a).2 = false then (badS a s.size, 81) else if (blanksP s a).1 = s.size then (⟨0, s.size, s.size, ⟨#[]⟩, 0⟩, 0) else signP s (blanksP s a).1 from rfl)
  replace hcl_end := Lib.hid (show (blanksP s a).2 = false → (blanksP s a).1 = s.size from hcl_end)
  rw [signP_eq] at NP
  generalize nextP s a = p at *
  generalize (blanksP s a).2 = cl at *
  generalize (blanksP s a).1 = f at *
  unfold ScPost
  cases hcl : cl
  · rw [if_pos hcl] at NP
    have hf := hcl_end.out hcl
    subst hf
    have RX := Lib.hid (fun (W : World) (hA : Whole W g scT #[.string s, .int .i64 a]) => show Calls Tryd.prog 19 #[.pointer (some ⟨g, 0, none⟩), .int .i64 s.size, .int .i64 81] W fun e w' => e = .returned (.tuple #[sgnV (badS a s.size), .int .i64 81]) ∧ Sv g W w' ∧ Whole w' g scT #[.string s, .int .i64 (badS a s.size).to] from reject_any s g a s.size 81 W hA)
    generalize badS a s.size = x at *
    go_enter Tryd.func13, Tryd.ntmps13
    go_wp2_with fail
    refine BB.out.mono ?_
    rintro e w1 ⟨rfl, rfl⟩
    rw [hcl]
    go_wp2_with fail
    refine (RX.out _ (A.out)).mono ?_
    rintro e w1 ⟨rfl, hv, hq⟩
    have Z1 := Lib.hid (hv.whole (Z.out) (by omega))
    have V1 := Lib.hid (Sv.trans (V.out) hv)
    have A1 := Lib.hid hq
    clear hv hq
    have q0 : w1.cell? ⟨w.heap.size, 0, none⟩ = some (.int .i64 0) := Z1.out.cell 0
    have f0 := Z1.out.free 0
    have q1 : w1.cell? ⟨w.heap.size, 1, none⟩ = some (.int .i64 0) := Z1.out.cell 1
    have f1 := Z1.out.free 1
    have q2 : w1.cell? ⟨w.heap.size, 2, none⟩ = some (.int .i64 0) := Z1.out.cell 2
    have f2 := Z1.out.free 2
    have q3 : w1.cell? ⟨w.heap.size, 3, none⟩ = some (.string ⟨#[]⟩) := Z1.out.cell 3
    have f3 := Z1.out.free 3
    have q4 : w1.cell? ⟨w.heap.size, 4, none⟩ = some (.int .i32 0) := Z1.out.cell 4
    have f4 := Z1.out.free 4
    go_wp2_with fail
    refine bodyPost_ret (v := .tuple #[sgnV x, .int .i64 81]) ?_ rfl ⟨by rw [NP.out], V1.out.set5 _ (Nat.le_refl _) _ _ _ _ _, by rw [NP.out]; exact A1.out.far5 _ (by omega) _ _ _ _ _⟩
    simp [results, Tryd.results13, go_sem, q0, q1, q2, q3, q4]
  · rw [if_neg (by rw [hcl]; decide)] at NP
    have b1 := (hQ.alloc (.cells #[.int .i64 0, .int .i64 0, .int .i64 0, .string ⟨#[]⟩, .int .i32 0] gsT)).free 1
    have hz : (w.setCell ⟨g, 1, none⟩ (.int .i64 f)).heap.size = w.heap.size := Whole.size_set _ _ _
    have A2 := Lib.hid (show Whole ((w.setCell ⟨g, 1, none⟩ (.int .i64 f)).alloc (.cells #[.int .i64 0, .int .i64 0, .int .i64 0, .string ⟨#[]⟩, .int .i32 0] gsT)) g scT #[.string s, .int .i64 f] from (hQ.store 1 (.int .i64 f)).alloc _)
    have c0 : ((w.setCell ⟨g, 1, none⟩ (.int .i64 f)).alloc (.cells #[.int .i64 0, .int .i64 0, .int .i64 0, .string ⟨#[]⟩, .int .i32 0] gsT)).cell? ⟨g, 0, none⟩ = some (.string s) := A2.out.cell 0
    have Z2 := Lib.hid (show Whole ((w.setCell ⟨g, 1, none⟩ (.int .i64 f)).alloc (.cells #[.int .i64 0, .int .i64 0, .int .i64 0, .string ⟨#[]⟩, .int .i32 0] gsT)) w.heap.size gsT #[.int .i64 0, .int .i64 0, .int .i64 0, .string ⟨#[]⟩, .int .i32 0] from by rw [← hz]; exact Whole.made _ _ _ _ rfl)
    have V2 := Lib.hid (show Sv g w ((w.setCell ⟨g, 1, none⟩ (.int .i64 f)).alloc (.cells #[.int .i64 0, .int .i64 0, .int .i64 0, .string ⟨#[]⟩, .int .i32 0] gsT)) from ((Sv.refl g w).setAt ⟨g, 1, none⟩ (.int .i64 f) (.inl rfl)).alloc _)
    clear hz
    by_cases hfe : f = s.size
    · rw [if_pos hfe] at NP
      subst hfe
      have dE : ((s.size : Int) == s.size) = true := beq_iff_eq.2 rfl
      have RX := Lib.hid (fun (W : World) (hA : Whole W g scT #[.string s, .int .i64 s.size]) => show Calls Tryd.prog 20 #[.pointer (some ⟨g, 0, none⟩), .int .i64 0, .int .i64 s.size, .int .i32 0] W fun e w' => e = .returned (.tuple #[sgnV ⟨0, s.size, s.size, ⟨#[]⟩, 0⟩, .int .i64 0]) ∧ Sv g W w' ∧ Whole w' g scT #[.string s, .int .i64 (⟨0, s.size, s.size, ⟨#[]⟩, 0⟩ : Sgn).to] from by have h := take_any s g s.size s.size 0 0 W hA hs (Nat.le_refl _) (Nat.le_refl _); rw [extract_none] at h; exact h)
      generalize (⟨0, s.size, s.size, ⟨#[]⟩, 0⟩ : Sgn) = x at *
      go_enter Tryd.func13, Tryd.ntmps13
      go_wp2_with fail
      refine BB.out.mono ?_
      rintro e w1 ⟨rfl, rfl⟩
      rw [hcl]
      go_wp2_with fail
      generalize ((w.setCell ⟨g, 1, none⟩ (.int .i64 s.size)).alloc (.cells #[.int .i64 0, .int .i64 0, .int .i64 0, .string ⟨#[]⟩, .int .i32 0] gsT)) = W2 at *
      refine (RX.out _ (A2.out)).mono ?_
      rintro e w1 ⟨rfl, hv, hq⟩
      have Z1 := Lib.hid (hv.whole (Z2.out) (by omega))
      have V1 := Lib.hid (Sv.trans (V2.out) hv)
      have A1 := Lib.hid hq
      clear hv hq
      have q0 : w1.cell? ⟨w.heap.size, 0, none⟩ = some (.int .i64 0) := Z1.out.cell 0
      have f0 := Z1.out.free 0
      have q1 : w1.cell? ⟨w.heap.size, 1, none⟩ = some (.int .i64 0) := Z1.out.cell 1
      have f1 := Z1.out.free 1
      have q2 : w1.cell? ⟨w.heap.size, 2, none⟩ = some (.int .i64 0) := Z1.out.cell 2
      have f2 := Z1.out.free 2
      have q3 : w1.cell? ⟨w.heap.size, 3, none⟩ = some (.string ⟨#[]⟩) := Z1.out.cell 3
      have f3 := Z1.out.free 3
      have q4 : w1.cell? ⟨w.heap.size, 4, none⟩ = some (.int .i32 0) := Z1.out.cell 4
      have f4 := Z1.out.free 4
      go_wp2_with fail
      refine bodyPost_ret (v := .tuple #[sgnV x, .int .i64 0]) ?_ rfl ⟨by rw [NP.out], V1.out.set5 _ (Nat.le_refl _) _ _ _ _ _, by rw [NP.out]; exact A1.out.far5 _ (by omega) _ _ _ _ _⟩
      simp [results, Tryd.results13, go_sem, q0, q1, q2, q3, q4]
    · rw [if_neg hfe] at NP
      have hlt : f < s.size := by omega
      have hltI : (f : Int) < s.size := by omega
      have dE : ((f : Int) == s.size) = false := beq_eq_false_iff_ne.2 (by omega)
      have g1 : s[f].toNat = byN s f := (byN_get hlt).symm
      have k1 := byN_lt s f
      have CL := Lib.hid (fun W => cls_isLetter (byN s f) W k1)
      have CD := Lib.hid (fun W => cls_isDigit (byN s f) W k1)
      generalize byN s f = b at *
      cases hL : letN b
      case true =>
        rw [hL] at CL
        rw [if_pos hL] at NP
        rcases hp : nameP s f with ⟨x, c⟩
        rw [hp] at NP
        have RX := Lib.hid (fun (W : World) (hA : Whole W g scT #[.string s, .int .i64 f]) => show Calls Tryd.prog 22 #[.pointer (some ⟨g, 0, none⟩)] W fun e w' => e = .returned (.tuple #[sgnV x, .int .i64 c]) ∧ Sv g W w' ∧ Whole w' g scT #[.string s, .int .i64 x.to] from by have h := readName_any s g f W hA hs hlt; rw [hp] at h; exact h)
        clear hp
        go_enter Tryd.func13, Tryd.ntmps13
        go_wp2_with fail
        refine BB.out.mono ?_
        rintro e w1 ⟨rfl, rfl⟩
        rw [hcl]
        go_wp2_with fail
        generalize ((w.setCell ⟨g, 1, none⟩ (.int .i64 f)).alloc (.cells #[.int .i64 0, .int .i64 0, .int .i64 0, .string ⟨#[]⟩, .int .i32 0] gsT)) = W2 at *
        refine (CL.out _).mono ?_
        rintro e w1 ⟨rfl, rfl⟩
        go_wp2_with fail
        refine (RX.out _ (A2.out)).mono ?_
        rintro e w1 ⟨rfl, hv, hq⟩
        have Z1 := Lib.hid (hv.whole (Z2.out) (by omega))
        have V1 := Lib.hid (Sv.trans (V2.out) hv)
        have A1 := Lib.hid hq
        clear hv hq
        have q0 : w1.cell? ⟨w.heap.size, 0, none⟩ = some (.int .i64 0) := Z1.out.cell 0
        have f0 := Z1.out.free 0
        have q1 : w1.cell? ⟨w.heap.size, 1, none⟩ = some (.int .i64 0) := Z1.out.cell 1
        have f1 := Z1.out.free 1
        have q2 : w1.cell? ⟨w.heap.size, 2, none⟩ = some (.int .i64 0) := Z1.out.cell 2
        have f2 := Z1.out.free 2
        have q3 : w1.cell? ⟨w.heap.size, 3, none⟩ = some (.string ⟨#[]⟩) := Z1.out.cell 3
        have f3 := Z1.out.free 3
        have q4 : w1.cell? ⟨w.heap.size, 4, none⟩ = some (.int .i32 0) := Z1.out.cell 4
        have f4 := Z1.out.free 4
        go_wp2_with fail
        refine bodyPost_ret (v := .tuple #[sgnV x, .int .i64 c]) ?_ rfl ⟨by rw [NP.out], V1.out.set5 _ (Nat.le_refl _) _ _ _ _ _, by rw [NP.out]; exact A1.out.far5 _ (by omega) _ _ _ _ _⟩
        simp [results, Tryd.results13, go_sem, q0, q1, q2, q3, q4]
      case false =>
        rw [hL] at CL
        rw [if_neg (by rw [hL]; decide)] at NP
        cases hD : digN b
        case true =>
          rw [hD] at CD
          rw [if_pos hD] at NP
          rcases hp : numP s f with ⟨x, c⟩
          rw [hp] at NP
          have RX := Lib.hid (fun (W : World) (hA : Whole W g scT #[.string s, .int .i64 f]) => show Calls Tryd.prog 24 #[.pointer (some ⟨g, 0, none⟩)] W fun e w' => e = .returned (.tuple #[sgnV x, .int .i64 c]) ∧ Sv g W w' ∧ Whole w' g scT #[.string s, .int .i64 x.to] from by have h := readNumber_any s g f W hA hs hlt; rw [hp] at h; exact h)
          clear hp
          go_enter Tryd.func13, Tryd.ntmps13
          go_wp2_with fail
          refine BB.out.mono ?_
          rintro e w1 ⟨rfl, rfl⟩
          rw [hcl]
          go_wp2_with fail
          generalize ((w.setCell ⟨g, 1, none⟩ (.int .i64 f)).alloc (.cells #[.int .i64 0, .int .i64 0, .int .i64 0, .string ⟨#[]⟩, .int .i32 0] gsT)) = W2 at *
          refine (CL.out _).mono ?_
          rintro e w1 ⟨rfl, rfl⟩
          go_wp2_with fail
          refine (CD.out _).mono ?_
          rintro e w1 ⟨rfl, rfl⟩
          go_wp2_with fail
          refine (RX.out _ (A2.out)).mono ?_
          rintro e w1 ⟨rfl, hv, hq⟩
          have Z1 := Lib.hid (hv.whole (Z2.out) (by omega))
          have V1 := Lib.hid (Sv.trans (V2.out) hv)
          have A1 := Lib.hid hq
          clear hv hq
          have q0 : w1.cell? ⟨w.heap.size, 0, none⟩ = some (.int .i64 0) := Z1.out.cell 0
          have f0 := Z1.out.free 0
          have q1 : w1.cell? ⟨w.heap.size, 1, none⟩ = some (.int .i64 0) := Z1.out.cell 1
          have f1 := Z1.out.free 1
          have q2 : w1.cell? ⟨w.heap.size, 2, none⟩ = some (.int .i64 0) := Z1.out.cell 2
          have f2 := Z1.out.free 2
          have q3 : w1.cell? ⟨w.heap.size, 3, none⟩ = some (.string ⟨#[]⟩) := Z1.out.cell 3
          have f3 := Z1.out.free 3
          have q4 : w1.cell? ⟨w.heap.size, 4, none⟩ = some (.int .i32 0) := Z1.out.cell 4
          have f4 := Z1.out.free 4
          go_wp2_with fail
          refine bodyPost_ret (v := .tuple #[sgnV x, .int .i64 c]) ?_ rfl ⟨by rw [NP.out], V1.out.set5 _ (Nat.le_refl _) _ _ _ _ _, by rw [NP.out]; exact A1.out.far5 _ (by omega) _ _ _ _ _⟩
          simp [results, Tryd.results13, go_sem, q0, q1, q2, q3, q4]
        case false =>
          rw [hD] at CD
          rw [if_neg (by rw [hD]; decide)] at NP
          clear hL hD
          by_cases h36 : b = 36
          · have e36 : ((b : Int) == 36) = true := beq_iff_eq.2 (by omega)
            rw [if_pos h36] at NP
            have H36 := Lib.hid h36
            clear h36
            rcases hp : hexP s f with ⟨x, c⟩
            rw [hp] at NP
            have RX := Lib.hid (fun (W : World) (hA : Whole W g scT #[.string s, .int .i64 f]) => show Calls Tryd.prog 25 #[.pointer (some ⟨g, 0, none⟩)] W fun e w' => e = .returned (.tuple #[sgnV x, .int .i64 c]) ∧ Sv g W w' ∧ Whole w' g scT #[.string s, .int .i64 x.to] from by have h := readWord_any s g f W hA hs hlt; rw [hp] at h; exact h)
            clear hp
            go_enter Tryd.func13, Tryd.ntmps13
            go_wp2_with fail
            refine BB.out.mono ?_
            rintro e w1 ⟨rfl, rfl⟩
            rw [hcl]
            go_wp2_with fail
            generalize ((w.setCell ⟨g, 1, none⟩ (.int .i64 f)).alloc (.cells #[.int .i64 0, .int .i64 0, .int .i64 0, .string ⟨#[]⟩, .int .i32 0] gsT)) = W2 at *
            refine (CL.out _).mono ?_
            rintro e w1 ⟨rfl, rfl⟩
            go_wp2_with fail
            refine (CD.out _).mono ?_
            rintro e w1 ⟨rfl, rfl⟩
            go_wp2_with fail
            refine (RX.out _ (A2.out)).mono ?_
            rintro e w1 ⟨rfl, hv, hq⟩
            have Z1 := Lib.hid (hv.whole (Z2.out) (by omega))
            have V1 := Lib.hid (Sv.trans (V2.out) hv)
            have A1 := Lib.hid hq
            clear hv hq
            have q0 : w1.cell? ⟨w.heap.size, 0, none⟩ = some (.int .i64 0) := Z1.out.cell 0
            have f0 := Z1.out.free 0
            have q1 : w1.cell? ⟨w.heap.size, 1, none⟩ = some (.int .i64 0) := Z1.out.cell 1
            have f1 := Z1.out.free 1
            have q2 : w1.cell? ⟨w.heap.size, 2, none⟩ = some (.int .i64 0) := Z1.out.cell 2
            have f2 := Z1.out.free 2
            have q3 : w1.cell? ⟨w.heap.size, 3, none⟩ = some (.string ⟨#[]⟩) := Z1.out.cell 3
            have f3 := Z1.out.free 3
            have q4 : w1.cell? ⟨w.heap.size, 4, none⟩ = some (.int .i32 0) := Z1.out.cell 4
            have f4 := Z1.out.free 4
            go_wp2_with fail
            refine bodyPost_ret (v := .tuple #[sgnV x, .int .i64 c]) ?_ rfl ⟨by rw [NP.out], V1.out.set5 _ (Nat.le_refl _) _ _ _ _ _, by rw [NP.out]; exact A1.out.far5 _ (by omega) _ _ _ _ _⟩
            simp [results, Tryd.results13, go_sem, q0, q1, q2, q3, q4]
          · have e36 : ((b : Int) == 36) = false := beq_eq_false_iff_ne.2 (by omega)
            rw [if_neg h36] at NP
            by_cases h39 : b = 39
            · have e39 : ((b : Int) == 39) = true := beq_iff_eq.2 (by omega)
              rw [if_pos h39] at NP
              have H39 := Lib.hid h39
              clear h39
              rcases hp : letterP s f with ⟨x, c⟩
              rw [hp] at NP
              have RX := Lib.hid (fun (W : World) (hA : Whole W g scT #[.string s, .int .i64 f]) => show Calls Tryd.prog 26 #[.pointer (some ⟨g, 0, none⟩)] W fun e w' => e = .returned (.tuple #[sgnV x, .int .i64 c]) ∧ Sv g W w' ∧ Whole w' g scT #[.string s, .int .i64 x.to] from by have h := readLetter_any s g f W hA hs hlt; rw [hp] at h; exact h)
              clear hp
              go_enter Tryd.func13, Tryd.ntmps13
              go_wp2_with fail
              refine BB.out.mono ?_
              rintro e w1 ⟨rfl, rfl⟩
              rw [hcl]
              go_wp2_with fail
              generalize ((w.setCell ⟨g, 1, none⟩ (.int .i64 f)).alloc (.cells #[.int .i64 0, .int .i64 0, .int .i64 0, .string ⟨#[]⟩, .int .i32 0] gsT)) = W2 at *
              refine (CL.out _).mono ?_
              rintro e w1 ⟨rfl, rfl⟩
              go_wp2_with fail
              refine (CD.out _).mono ?_
              rintro e w1 ⟨rfl, rfl⟩
              go_wp2_with fail
              refine (RX.out _ (A2.out)).mono ?_
              rintro e w1 ⟨rfl, hv, hq⟩
              have Z1 := Lib.hid (hv.whole (Z2.out) (by omega))
              have V1 := Lib.hid (Sv.trans (V2.out) hv)
              have A1 := Lib.hid hq
              clear hv hq
              have q0 : w1.cell? ⟨w.heap.size, 0, none⟩ = some (.int .i64 0) := Z1.out.cell 0
              have f0 := Z1.out.free 0
              have q1 : w1.cell? ⟨w.heap.size, 1, none⟩ = some (.int .i64 0) := Z1.out.cell 1
              have f1 := Z1.out.free 1
              have q2 : w1.cell? ⟨w.heap.size, 2, none⟩ = some (.int .i64 0) := Z1.out.cell 2
              have f2 := Z1.out.free 2
              have q3 : w1.cell? ⟨w.heap.size, 3, none⟩ = some (.string ⟨#[]⟩) := Z1.out.cell 3
              have f3 := Z1.out.free 3
              have q4 : w1.cell? ⟨w.heap.size, 4, none⟩ = some (.int .i32 0) := Z1.out.cell 4
              have f4 := Z1.out.free 4
              go_wp2_with fail
              refine bodyPost_ret (v := .tuple #[sgnV x, .int .i64 c]) ?_ rfl ⟨by rw [NP.out], V1.out.set5 _ (Nat.le_refl _) _ _ _ _ _, by rw [NP.out]; exact A1.out.far5 _ (by omega) _ _ _ _ _⟩
              simp [results, Tryd.results13, go_sem, q0, q1, q2, q3, q4]
            · have e39 : ((b : Int) == 39) = false := beq_eq_false_iff_ne.2 (by omega)
              rw [if_neg h39] at NP
              by_cases h34 : b = 34
              · have e34 : ((b : Int) == 34) = true := beq_iff_eq.2 (by omega)
                rw [if_pos h34] at NP
                have H34 := Lib.hid h34
                clear h34
                rcases hp : textP s f with ⟨x, c⟩
                rw [hp] at NP
                have RX := Lib.hid (fun (W : World) (hA : Whole W g scT #[.string s, .int .i64 f]) => show Calls Tryd.prog 27 #[.pointer (some ⟨g, 0, none⟩)] W fun e w' => e = .returned (.tuple #[sgnV x, .int .i64 c]) ∧ Sv g W w' ∧ Whole w' g scT #[.string s, .int .i64 x.to] from by have h := readText_any s g f W hA hs hlt; rw [hp] at h; exact h)
                clear hp
                go_enter Tryd.func13, Tryd.ntmps13
                go_wp2_with fail
                refine BB.out.mono ?_
                rintro e w1 ⟨rfl, rfl⟩
                rw [hcl]
                go_wp2_with fail
                generalize ((w.setCell ⟨g, 1, none⟩ (.int .i64 f)).alloc (.cells #[.int .i64 0, .int .i64 0, .int .i64 0, .string ⟨#[]⟩, .int .i32 0] gsT)) = W2 at *
                refine (CL.out _).mono ?_
                rintro e w1 ⟨rfl, rfl⟩
                go_wp2_with fail
                refine (CD.out _).mono ?_
                rintro e w1 ⟨rfl, rfl⟩
                go_wp2_with fail
                refine (RX.out _ (A2.out)).mono ?_
                rintro e w1 ⟨rfl, hv, hq⟩
                have Z1 := Lib.hid (hv.whole (Z2.out) (by omega))
                have V1 := Lib.hid (Sv.trans (V2.out) hv)
                have A1 := Lib.hid hq
                clear hv hq
                have q0 : w1.cell? ⟨w.heap.size, 0, none⟩ = some (.int .i64 0) := Z1.out.cell 0
                have f0 := Z1.out.free 0
                have q1 : w1.cell? ⟨w.heap.size, 1, none⟩ = some (.int .i64 0) := Z1.out.cell 1
                have f1 := Z1.out.free 1
                have q2 : w1.cell? ⟨w.heap.size, 2, none⟩ = some (.int .i64 0) := Z1.out.cell 2
                have f2 := Z1.out.free 2
                have q3 : w1.cell? ⟨w.heap.size, 3, none⟩ = some (.string ⟨#[]⟩) := Z1.out.cell 3
                have f3 := Z1.out.free 3
                have q4 : w1.cell? ⟨w.heap.size, 4, none⟩ = some (.int .i32 0) := Z1.out.cell 4
                have f4 := Z1.out.free 4
                go_wp2_with fail
                refine bodyPost_ret (v := .tuple #[sgnV x, .int .i64 c]) ?_ rfl ⟨by rw [NP.out], V1.out.set5 _ (Nat.le_refl _) _ _ _ _ _, by rw [NP.out]; exact A1.out.far5 _ (by omega) _ _ _ _ _⟩
                simp [results, Tryd.results13, go_sem, q0, q1, q2, q3, q4]
              · have e34 : ((b : Int) == 34) = false := beq_eq_false_iff_ne.2 (by omega)
                rw [if_neg h34] at NP
                rcases hp : markP s f with ⟨x, c⟩
                rw [hp] at NP
                have RX := Lib.hid (fun (W : World) (hA : Whole W g scT #[.string s, .int .i64 f]) => show Calls Tryd.prog 28 #[.pointer (some ⟨g, 0, none⟩)] W fun e w' => e = .returned (.tuple #[sgnV x, .int .i64 c]) ∧ Sv g W w' ∧ Whole w' g scT #[.string s, .int .i64 x.to] from by have h := readMark_any s g f W hA hs hlt; rw [hp] at h; exact h)
                clear hp
                go_enter Tryd.func13, Tryd.ntmps13
                go_wp2_with fail
                refine BB.out.mono ?_
                rintro e w1 ⟨rfl, rfl⟩
                rw [hcl]
                go_wp2_with fail
                generalize ((w.setCell ⟨g, 1, none⟩ (.int .i64 f)).alloc (.cells #[.int .i64 0, .int .i64 0, .int .i64 0, .string ⟨#[]⟩, .int .i32 0] gsT)) = W2 at *
                refine (CL.out _).mono ?_
                rintro e w1 ⟨rfl, rfl⟩
                go_wp2_with fail
                refine (CD.out _).mono ?_
                rintro e w1 ⟨rfl, rfl⟩
                go_wp2_with fail
                refine (RX.out _ (A2.out)).mono ?_
                rintro e w1 ⟨rfl, hv, hq⟩
                have Z1 := Lib.hid (hv.whole (Z2.out) (by omega))
                have V1 := Lib.hid (Sv.trans (V2.out) hv)
                have A1 := Lib.hid hq
                clear hv hq
                have q0 : w1.cell? ⟨w.heap.size, 0, none⟩ = some (.int .i64 0) := Z1.out.cell 0
                have f0 := Z1.out.free 0
                have q1 : w1.cell? ⟨w.heap.size, 1, none⟩ = some (.int .i64 0) := Z1.out.cell 1
                have f1 := Z1.out.free 1
                have q2 : w1.cell? ⟨w.heap.size, 2, none⟩ = some (.int .i64 0) := Z1.out.cell 2
                have f2 := Z1.out.free 2
                have q3 : w1.cell? ⟨w.heap.size, 3, none⟩ = some (.string ⟨#[]⟩) := Z1.out.cell 3
                have f3 := Z1.out.free 3
                have q4 : w1.cell? ⟨w.heap.size, 4, none⟩ = some (.int .i32 0) := Z1.out.cell 4
                have f4 := Z1.out.free 4
                go_wp2_with fail
                refine bodyPost_ret (v := .tuple #[sgnV x, .int .i64 c]) ?_ rfl ⟨by rw [NP.out], V1.out.set5 _ (Nat.le_refl _) _ _ _ _ _, by rw [NP.out]; exact A1.out.far5 _ (by omega) _ _ _ _ _⟩
                simp [results, Tryd.results13, go_sem, q0, q1, q2, q3, q4]
end Go.Proofs.YtbkagnhficmdhaaDoor
