/- Scan: the answers' All. -/
import Derived.Test.YtbkagnhficmdhaaDoorScnU
import Derived.Test.YtbkagnhficmdhaaDoorScnV4
namespace Go.Proofs.YtbkagnhficmdhaaDoor
open Go.ChangeShapes Go.WideShapes Go.ChangeAt Go.RowKit
set_option linter.unusedVariables false
set_option linter.unusedSimpArgs false

theorem own_below {w w' : World} {B : Nat} {e : TypeId} {sz : Nat} {v : Value} {n : Nat} {xs : List Value} (h : w.ownsRow B e sz v n xs) (hb : Below w.heap.size w w') : w'.ownsRow B e sz v n xs :=
  World.ownsRow.kept (row := none) h ⟨hb.os, hb.tape, hb.output, hb.size, fun i hi _ => hb.block i hi⟩ (by cases hv : v.ownBlock <;> simp)

theorem rsgn_info : (Tryd.prog.info? rsT).map (fun i => (i.zero, i.size, i.bytes)) = some (some (.agg #[.int .i64 0, .int .i64 0, .int .i64 0, .string ⟨#[]⟩, .int .i32 0]), 5, 48) := by kernel_rfl

set_option maxHeartbeats 8000000 in
set_option maxRecDepth 100000 in
theorem refall_any (s : ByteArray) (w : World) (hs : s.size ≤ 1000000) : Calls Tryd.prog 10 #[.string s] w (AllPost rsT w (allP s)) := by
  unfold AllPost
  have AP := Lib.hid (show allP s = if 65536 < s.size then ([], 0, 242) else allF (s.size + 1) s 0 [] from rfl)
  generalize allP s = rr at *
  by_cases hbig : 65536 < s.size
  · have dB : decide ((65536 : Int) < s.size) = true := decide_eq_true (by omega)
    rw [if_pos hbig] at AP
    go_enter Tryd.func10, Tryd.ntmps10
    go_wp2_with fail
    go_ret3
    exact ⟨.slice none 0 0, by rw [AP.out]; rfl, Below.refl _ _, by rw [AP.out]; exact own_nil _ _ _ _⟩
  · have dB : decide ((65536 : Int) < s.size) = false := decide_eq_false (by omega)
    rw [if_neg hbig] at AP
    obtain ⟨i0, hi, hz0, hz1, hz2⟩ := info_parts rsgn_info
    go_enter Tryd.func10, Tryd.ntmps10
    go_wp2_with fail
    go_loopw [5, 6] (fun v kk wr => ∃ (k f : Nat) (acc : List Sgn), k ≤ s.size ∧ s.size - k < f ∧ acc.length ≤ k ∧ kk = .int .i64 k ∧ wr.ownsRow w.heap.size rsT 5 v acc.length (acc.flatMap Sgn.cells) ∧ Below w.heap.size w wr ∧ allF f s k acc = rr) (fun v _ _ => s.size + 1 - lenV v)
    case atStart => exact ⟨0, s.size + 1, [], Nat.zero_le _, by omega, Nat.le_refl _, rfl, own_nil _ _ _ _, Below.refl _ _, AP.out.symm⟩
    case round =>
      obtain ⟨k, f, acc, hk, hf, hak, rfl, hO, hB, hR⟩ := hrel
      obtain ⟨A0, c0, rfl⟩ := own_form hO
      have HO := Lib.hid hO
      have HB := Lib.hid hB
      have HR := Lib.hid hR
      have hwr : w.heap.size ≤ wr.heap.size := hB.size
      clear hO hB hR
      obtain ⟨f, rfl⟩ : ∃ h, f = h + 1 := ⟨f - 1, by omega⟩
      have NX := Lib.hid (refnext_any s k wr hs hk)
      obtain ⟨n1, n2, n3, n4, n5, n6, n7, n8⟩ := nextP_ok s hk
      have FB := Lib.hid (@allF_bad f s k acc)
      have FE := Lib.hid (@allF_end f s k acc)
      have FG := Lib.hid (@allF_go f s k acc)
      have N8 := Lib.hid n8
      clear n8
      unfold SgnPost at NX
      generalize nextP s k = r at *
      obtain ⟨x, c⟩ := r
      go_wp2_with fail
      refine NX.out.mono ?_
      rintro e w1 ⟨rfl, hv⟩
      have O1 := Lib.hid (own_below HO.out hv)
      have B1 := Lib.hid (HB.out.trans (hv.mono hwr))
      have hz1' : wr.heap.size ≤ w1.heap.size := hv.size
      clear hv NX
      have U1 := (Below.refl w1.heap.size w1).alloc (Nat.le_refl _) (.cells #[.int .i64 x.kind, .int .i64 x.frm, .int .i64 x.to, .string x.text, .int .i32 x.n] rsT)
      have Y := Whole.made w1 rsT #[.int .i64 x.kind, .int .i64 x.frm, .int .i64 x.to, .string x.text, .int .i32 x.n] _ rfl
      have y0 : (w1.alloc (.cells #[.int .i64 x.kind, .int .i64 x.frm, .int .i64 x.to, .string x.text, .int .i32 x.n] rsT)).cell? ⟨w1.heap.size, 0, none⟩ = some (.int .i64 x.kind) := Y.cell 0
      have y1 : (w1.alloc (.cells #[.int .i64 x.kind, .int .i64 x.frm, .int .i64 x.to, .string x.text, .int .i32 x.n] rsT)).cell? ⟨w1.heap.size, 1, none⟩ = some (.int .i64 x.frm) := Y.cell 1
      have y2 : (w1.alloc (.cells #[.int .i64 x.kind, .int .i64 x.frm, .int .i64 x.to, .string x.text, .int .i32 x.n] rsT)).cell? ⟨w1.heap.size, 2, none⟩ = some (.int .i64 x.to) := Y.cell 2
      have y3 : (w1.alloc (.cells #[.int .i64 x.kind, .int .i64 x.frm, .int .i64 x.to, .string x.text, .int .i32 x.n] rsT)).cell? ⟨w1.heap.size, 3, none⟩ = some (.string x.text) := Y.cell 3
      have y4 : (w1.alloc (.cells #[.int .i64 x.kind, .int .i64 x.frm, .int .i64 x.to, .string x.text, .int .i32 x.n] rsT)).cell? ⟨w1.heap.size, 4, none⟩ = some (.int .i32 x.n) := Y.cell 4
      have O2 := Lib.hid ((World.ownsRow.alloc O1.out (.cells #[.int .i64 x.kind, .int .i64 x.frm, .int .i64 x.to, .string x.text, .int .i32 x.n] rsT)).alloc (.cells #[.int .i64 x.kind, .int .i64 x.frm, .int .i64 x.to, .string x.text, .int .i32 x.n] rsT))
      have B2 := Lib.hid ((B1.out.alloc (by omega) (.cells #[.int .i64 x.kind, .int .i64 x.frm, .int .i64 x.to, .string x.text, .int .i32 x.n] rsT)).alloc (by simp; omega) (.cells #[.int .i64 x.kind, .int .i64 x.frm, .int .i64 x.to, .string x.text, .int .i32 x.n] rsT))
      have Y2 := Lib.hid (Y.alloc (.cells #[.int .i64 x.kind, .int .i64 x.frm, .int .i64 x.to, .string x.text, .int .i32 x.n] rsT))
      have NC := Lib.hid (show ∀ (j : Nat) u, ([.int .i64 x.kind, .int .i64 x.frm, .int .i64 x.to, .string x.text, .int .i32 x.n] : List Value)[j]? = some u → ((w1.alloc (.cells #[.int .i64 x.kind, .int .i64 x.frm, .int .i64 x.to, .string x.text, .int .i32 x.n] rsT)).alloc (.cells #[.int .i64 x.kind, .int .i64 x.frm, .int .i64 x.to, .string x.text, .int .i32 x.n] rsT)).cell? ((⟨w1.heap.size + 1, 0, none⟩ : Addr).add j) = some u from fun j u hj => by
        rw [Go.WideShapes.add_plain, Nat.zero_add]
        exact ((Whole.made (w1.alloc (.cells #[.int .i64 x.kind, .int .i64 x.frm, .int .i64 x.to, .string x.text, .int .i32 x.n] rsT)) rsT #[.int .i64 x.kind, .int .i64 x.frm, .int .i64 x.to, .string x.text, .int .i32 x.n] (w1.heap.size + 1) (by simp)).cell j).trans (by simpa using hj))
      clear Y
      have NE := Lib.hid (fun b (hb : (Value.slice A0 acc.length c0).ownBlock = some b) => World.ownsRow.lt O1.out b hb)
      have hzU : ((w1.alloc (.cells #[.int .i64 x.kind, .int .i64 x.frm, .int .i64 x.to, .string x.text, .int .i32 x.n] rsT)).alloc (.cells #[.int .i64 x.kind, .int .i64 x.frm, .int .i64 x.to, .string x.text, .int .i32 x.n] rsT)).heap.size = w1.heap.size + 2 := by simp
      have ZU := Lib.hid hzU
      clear hzU
      by_cases hc : c = 0
      · subst hc
        have dC : ((0 : Int) != 0) = false := rfl
        by_cases hk0 : x.kind = 0
        · have dK : (x.kind == 0) = true := beq_iff_eq.2 hk0
          have RR := Lib.hid ((FE.out rfl hk0).symm.trans HR.out)
          clear FB FE FG HR hk0
          go_wp2_with (first | (at_builtin; refine wpList_append_rows _ rfl _ _ 27 rfl w.heap.size rsT i0 _ 5 48 Tryd.underlying27 hi hz0 hz1 hz2 rfl (by decide) (.slice A0 acc.length c0) acc.length _ rfl O2.out ⟨w1.heap.size + 1, 0, none⟩ 1 1 [.int .i64 x.kind, .int .i64 x.frm, .int .i64 x.to, .string x.text, .int .i32 x.n] rfl rfl NC.out (fun u hu => by simp at hu; rcases hu with rfl | rfl | rfl | rfl | rfl <;> rfl) (by unfold maxLen; omega) (by omega) (by simp; omega) ?_; intro v3 w3 ho3 hg3; obtain ⟨A3, c3, rfl⟩ := own_form ho3; have Y3 := Lib.hid (show Whole w3 w1.heap.size rsT #[.int .i64 x.kind, .int .i64 x.frm, .int .i64 x.to, .string x.text, .int .i32 x.n] from (hg3.block w1.heap.size (by rw [ZU.out]; omega) (fun e => by have := (NE.out _ e.symm).2; omega)).trans Y2.out); have B3 := Lib.hid (B2.out.grown hg3 (by rw [ZU.out]; omega) (fun b hb => by exact (NE.out b hb).1)); have O4 := Lib.hid (show w3.ownsRow w.heap.size rsT 5 (.slice A3 (acc.length + 1) c3) (acc ++ [x]).length ((acc ++ [x]).flatMap Sgn.cells) from by rw [List.length_append, List.flatMap_append]; exact ho3); have z0 : w3.cell? ⟨w1.heap.size, 0, none⟩ = some (.int .i64 x.kind) := Y3.out.cell 0; have z2 : w3.cell? ⟨w1.heap.size, 2, none⟩ = some (.int .i64 x.to) := Y3.out.cell 2; clear ho3 hg3))
          go_ret3
          exact ⟨_, by rw [← RR.out]; rfl, B3.out, by rw [← RR.out]; exact O4.out⟩
        · have dK : (x.kind == 0) = false := beq_eq_false_iff_ne.2 hk0
          have RR := Lib.hid ((FG.out rfl hk0).symm.trans HR.out)
          have hkt := N8.out rfl hk0
          clear FB FE FG HR hk0
          go_wp2_with (first | (at_builtin; refine wpList_append_rows _ rfl _ _ 27 rfl w.heap.size rsT i0 _ 5 48 Tryd.underlying27 hi hz0 hz1 hz2 rfl (by decide) (.slice A0 acc.length c0) acc.length _ rfl O2.out ⟨w1.heap.size + 1, 0, none⟩ 1 1 [.int .i64 x.kind, .int .i64 x.frm, .int .i64 x.to, .string x.text, .int .i32 x.n] rfl rfl NC.out (fun u hu => by simp at hu; rcases hu with rfl | rfl | rfl | rfl | rfl <;> rfl) (by unfold maxLen; omega) (by omega) (by simp; omega) ?_; intro v3 w3 ho3 hg3; obtain ⟨A3, c3, rfl⟩ := own_form ho3; have Y3 := Lib.hid (show Whole w3 w1.heap.size rsT #[.int .i64 x.kind, .int .i64 x.frm, .int .i64 x.to, .string x.text, .int .i32 x.n] from (hg3.block w1.heap.size (by rw [ZU.out]; omega) (fun e => by have := (NE.out _ e.symm).2; omega)).trans Y2.out); have B3 := Lib.hid (B2.out.grown hg3 (by rw [ZU.out]; omega) (fun b hb => by exact (NE.out b hb).1)); have O4 := Lib.hid (show w3.ownsRow w.heap.size rsT 5 (.slice A3 (acc.length + 1) c3) (acc ++ [x]).length ((acc ++ [x]).flatMap Sgn.cells) from by rw [List.length_append, List.flatMap_append]; exact ho3); have z0 : w3.cell? ⟨w1.heap.size, 0, none⟩ = some (.int .i64 x.kind) := Y3.out.cell 0; have z2 : w3.cell? ⟨w1.heap.size, 2, none⟩ = some (.int .i64 x.to) := Y3.out.cell 2; clear ho3 hg3))
          go_roundw
          case rel => exact ⟨x.to, f, acc ++ [x], n3, by omega, by rw [List.length_append]; show acc.length + 1 ≤ x.to; omega, rfl, O4.out, B3.out, RR.out⟩
          case measure => show s.size + 1 - (acc.length + 1) < s.size + 1 - acc.length; omega
      · have dC : (c != 0) = true := by rw [bne, beq_eq_false_iff_ne.2 hc]; rfl
        have RR := Lib.hid ((FB.out hc).symm.trans HR.out)
        clear FB FE FG HR
        go_wp2_with fail
        go_quiet (fail)
        go_wp2_with fail
        go_ret3
        exact ⟨_, by rw [← RR.out]; rfl, below_drawn (B1.out.alloc (by omega) _) _, by rw [← RR.out]; exact own_nil _ _ _ _⟩
end Go.Proofs.YtbkagnhficmdhaaDoor
