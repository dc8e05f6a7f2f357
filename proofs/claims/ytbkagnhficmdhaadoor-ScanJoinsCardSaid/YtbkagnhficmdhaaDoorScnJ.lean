/- Scan: the program's readNumber. -/
import Derived.Test.YtbkagnhficmdhaaDoorScnH
import Derived.Test.YtbkagnhficmdhaaDoorScnQ
import Derived.Test.YtbkagnhficmdhaaDoorWordG
import Derived.BigQuiet
import Derived.Deep.QuietTactic
namespace Go.Proofs.YtbkagnhficmdhaaDoor
open Go.ChangeShapes Go.WideShapes Go.ChangeAt Go.RowKit
set_option linter.unusedVariables false
set_option linter.unusedSimpArgs false

theorem ent_isDigit : Enters Tryd.prog 23 := enters_of Tryd.func23 (by kernel_rfl) rfl

theorem empty_bytes (l : List UInt8) : (⟨l.toArray⟩ : ByteArray).toList.isEmpty = l.isEmpty := by
  rw [Lib.toList_data]

set_option maxHeartbeats 8000000 in
set_option maxRecDepth 100000 in
theorem readNumber_any (s : ByteArray) (g a : Nat) (w : World) (hQ : Whole w g scT #[.string s, .int .i64 a]) (hs : s.size ≤ 1000000) (ha : a < s.size) : Calls Tryd.prog 24 #[.pointer (some ⟨g, 0, none⟩)] w (ScPost w g s (numP s a)) := by
  have hg := hQ.lt
  have A := Lib.hid (hQ.alloc (.cells #[.int .i64 0, .int .i64 0, .int .i64 0, .string ⟨#[]⟩, .int .i32 0] gsT))
  have Z := Lib.hid (Whole.made w gsT #[.int .i64 0, .int .i64 0, .int .i64 0, .string ⟨#[]⟩, .int .i32 0] _ rfl)
  have V := Lib.hid ((Sv.refl g w).alloc (.cells #[.int .i64 0, .int .i64 0, .int .i64 0, .string ⟨#[]⟩, .int .i32 0] gsT))
  have a0 : (w.alloc (.cells #[.int .i64 0, .int .i64 0, .int .i64 0, .string ⟨#[]⟩, .int .i32 0] gsT)).cell? ⟨g, 0, none⟩ = some (.string s) := A.out.cell 0
  have a1 : (w.alloc (.cells #[.int .i64 0, .int .i64 0, .int .i64 0, .string ⟨#[]⟩, .int .i32 0] gsT)).cell? ⟨g, 1, none⟩ = some (.int .i64 a) := A.out.cell 1
  have NP := Lib.hid (numP_real s a)
  generalize numP s a = p at *
  have hb := endOf_bound digN (Nat.le_of_lt ha)
  have C := Lib.hid (behind_any ent_isDigit cls_isDigit s a g a (w.alloc (.cells #[.int .i64 0, .int .i64 0, .int .i64 0, .string ⟨#[]⟩, .int .i32 0] gsT)) A.out hs (Nat.le_of_lt ha))
  have P1 := Lib.hid (parse_trim s (Nat.le_of_lt ha))
  have P2 := Lib.hid (parse_none s (Nat.le_of_lt ha))
  generalize realN s a = n at *
  generalize endOf digN s a = t at *
  have htI : (a : Int) ≤ t := by omega
  have TL := Lib.hid (fun W => Tryd.strings_TrimLeft_one (s.extract a t) 48 (by decide) W)
  generalize hl : Lib.trimLeftB (s.extract a t).data.toList 48 = l at *
  have hls : l.length ≤ 1000000 := by
    rw [← hl]
    unfold Lib.trimLeftB
    refine Nat.le_trans (List.dropWhile_sublist _).length_le ?_
    rw [data_len, ByteArray.size_extract]
    omega
  clear hl
  have HE := Lib.hid (empty_bytes l)
  unfold ScPost
  go_enter Tryd.func24, Tryd.ntmps24
  go_wp2_with fail
  generalize (w.alloc (.cells #[.int .i64 0, .int .i64 0, .int .i64 0, .string ⟨#[]⟩, .int .i32 0] gsT)) = W at *
  refine C.out.mono ?_
  rintro e w1 ⟨rfl, rfl⟩
  clear C
  rcases l with _ | ⟨l0, l1⟩
  · have he : (⟨([] : List UInt8).toArray⟩ : ByteArray).toList.isEmpty = true := HE.out
    have PX := Lib.hid (fun W => show Calls Tryd.prog 43 #[.string ⟨#[48]⟩] W fun e w' => e = .returned (parsedV n) ∧ Below W.heap.size W w' from by rw [← P2.out rfl]; exact parse_any ⟨#[48]⟩ W (by decide))
    clear P1 P2
    cases hok : decide ((n : Int) ≤ 2147483647)
    · have hgt : 2147483647 < n := by have := of_decide_eq_false hok; omega
      rw [if_pos hgt] at NP
      have PV := Lib.hid (show parsedV n = .tuple #[.int .i32 0, .bool false] from by unfold parsedV; rw [if_neg (of_decide_eq_false hok)])
      rw [PV.out] at PX
      clear PV hok hgt
      have RX := Lib.hid (fun (W : World) (hA : Whole W g scT #[.string s, .int .i64 a]) => show Calls Tryd.prog 19 #[.pointer (some ⟨g, 0, none⟩), .int .i64 t, .int .i64 80] W fun e w' => e = .returned (.tuple #[sgnV (badS a t), .int .i64 80]) ∧ Sv g W w' ∧ Whole w' g scT #[.string s, .int .i64 (badS a t : Sgn).to] from reject_any s g a t 80 W hA)
      generalize (badS a t : Sgn) = x at NP RX
      go_wp2_with fail
      go_quiet (first | (go_at_call 42; refine Calls.quiet_of_same ((TL.out _).mono (fun _ _ h => h))))
      go_wp2_with fail
      refine (PX.out _).mono ?_
      rintro e w1 ⟨rfl, hb1⟩
      have A1 := Lib.hid ((A.out.drawn _).below hb1 (A.out.drawn _).lt)
      have Z1 := Lib.hid ((Z.out.drawn _).below hb1 (Z.out.drawn _).lt)
      have V1 := Lib.hid ((V.out.drawn _).trans (.of_below hb1 (Nat.le_refl _)))
      clear hb1
      go_wp2_with fail
      refine (RX.out _ A1.out).mono ?_
      rintro e w2 ⟨rfl, hv, hq⟩
      have Z2 := Lib.hid (hv.whole Z1.out (by omega))
      have V2 := Lib.hid (Sv.trans V1.out hv)
      have A2 := Lib.hid hq
      clear hv hq
      have q0 : w2.cell? ⟨w.heap.size, 0, none⟩ = some (.int .i64 0) := Z2.out.cell 0
      have f0 := Z2.out.free 0
      have q1 : w2.cell? ⟨w.heap.size, 1, none⟩ = some (.int .i64 0) := Z2.out.cell 1
      have f1 := Z2.out.free 1
      have q2 : w2.cell? ⟨w.heap.size, 2, none⟩ = some (.int .i64 0) := Z2.out.cell 2
      have f2 := Z2.out.free 2
      have q3 : w2.cell? ⟨w.heap.size, 3, none⟩ = some (.string ⟨#[]⟩) := Z2.out.cell 3
      have f3 := Z2.out.free 3
      have q4 : w2.cell? ⟨w.heap.size, 4, none⟩ = some (.int .i32 0) := Z2.out.cell 4
      have f4 := Z2.out.free 4
      go_wp2_with fail
      refine bodyPost_ret (v := .tuple #[sgnV x, .int .i64 80]) ?_ rfl ⟨by rw [NP.out], V2.out.set5 _ (Nat.le_refl _) _ _ _ _ _, by rw [NP.out]; exact A2.out.far5 _ (by omega) _ _ _ _ _⟩
      simp [results, Tryd.results24, go_sem, q0, q1, q2, q3, q4]
    · have hle : (n : Int) ≤ 2147483647 := of_decide_eq_true hok
      rw [if_neg (by omega)] at NP
      have PV := Lib.hid (show parsedV n = .tuple #[.int .i32 n, .bool true] from by unfold parsedV; rw [if_pos hle])
      rw [PV.out] at PX
      clear PV hok hle
      have RX := Lib.hid (fun (W : World) (hA : Whole W g scT #[.string s, .int .i64 a]) => show Calls Tryd.prog 20 #[.pointer (some ⟨g, 0, none⟩), .int .i64 2, .int .i64 t, .int .i32 n] W fun e w' => e = .returned (.tuple #[sgnV (⟨2, a, t, s.extract a t, n⟩), .int .i64 0]) ∧ Sv g W w' ∧ Whole w' g scT #[.string s, .int .i64 (⟨2, a, t, s.extract a t, n⟩ : Sgn).to] from take_any s g a t 2 n W hA hs (by omega) (by omega))
      generalize (⟨2, a, t, s.extract a t, n⟩ : Sgn) = x at NP RX
      go_wp2_with fail
      go_quiet (first | (go_at_call 42; refine Calls.quiet_of_same ((TL.out _).mono (fun _ _ h => h))))
      go_wp2_with fail
      refine (PX.out _).mono ?_
      rintro e w1 ⟨rfl, hb1⟩
      have A1 := Lib.hid ((A.out.drawn _).below hb1 (A.out.drawn _).lt)
      have Z1 := Lib.hid ((Z.out.drawn _).below hb1 (Z.out.drawn _).lt)
      have V1 := Lib.hid ((V.out.drawn _).trans (.of_below hb1 (Nat.le_refl _)))
      clear hb1
      go_wp2_with fail
      refine (RX.out _ A1.out).mono ?_
      rintro e w2 ⟨rfl, hv, hq⟩
      have Z2 := Lib.hid (hv.whole Z1.out (by omega))
      have V2 := Lib.hid (Sv.trans V1.out hv)
      have A2 := Lib.hid hq
      clear hv hq
      have q0 : w2.cell? ⟨w.heap.size, 0, none⟩ = some (.int .i64 0) := Z2.out.cell 0
      have f0 := Z2.out.free 0
      have q1 : w2.cell? ⟨w.heap.size, 1, none⟩ = some (.int .i64 0) := Z2.out.cell 1
      have f1 := Z2.out.free 1
      have q2 : w2.cell? ⟨w.heap.size, 2, none⟩ = some (.int .i64 0) := Z2.out.cell 2
      have f2 := Z2.out.free 2
      have q3 : w2.cell? ⟨w.heap.size, 3, none⟩ = some (.string ⟨#[]⟩) := Z2.out.cell 3
      have f3 := Z2.out.free 3
      have q4 : w2.cell? ⟨w.heap.size, 4, none⟩ = some (.int .i32 0) := Z2.out.cell 4
      have f4 := Z2.out.free 4
      go_wp2_with fail
      refine bodyPost_ret (v := .tuple #[sgnV x, .int .i64 0]) ?_ rfl ⟨by rw [NP.out], V2.out.set5 _ (Nat.le_refl _) _ _ _ _ _, by rw [NP.out]; exact A2.out.far5 _ (by omega) _ _ _ _ _⟩
      simp [results, Tryd.results24, go_sem, q0, q1, q2, q3, q4]
  · have he : (⟨(l0 :: l1).toArray⟩ : ByteArray).toList.isEmpty = false := HE.out
    have hsz : (⟨(l0 :: l1).toArray⟩ : ByteArray).size ≤ 1000000 := by show (l0 :: l1).toArray.size ≤ _; rw [List.size_toArray]; exact hls
    have PX := Lib.hid (fun W => show Calls Tryd.prog 43 #[.string ⟨(l0 :: l1).toArray⟩] W fun e w' => e = .returned (parsedV n) ∧ Below W.heap.size W w' from by rw [← P1.out (List.cons_ne_nil _ _)]; exact parse_any ⟨(l0 :: l1).toArray⟩ W (by unfold maxLen; omega))
    clear P1 P2
    generalize (⟨(l0 :: l1).toArray⟩ : ByteArray) = dg at *
    cases hok : decide ((n : Int) ≤ 2147483647)
    · have hgt : 2147483647 < n := by have := of_decide_eq_false hok; omega
      rw [if_pos hgt] at NP
      have PV := Lib.hid (show parsedV n = .tuple #[.int .i32 0, .bool false] from by unfold parsedV; rw [if_neg (of_decide_eq_false hok)])
      rw [PV.out] at PX
      clear PV hok hgt
      have RX := Lib.hid (fun (W : World) (hA : Whole W g scT #[.string s, .int .i64 a]) => show Calls Tryd.prog 19 #[.pointer (some ⟨g, 0, none⟩), .int .i64 t, .int .i64 80] W fun e w' => e = .returned (.tuple #[sgnV (badS a t), .int .i64 80]) ∧ Sv g W w' ∧ Whole w' g scT #[.string s, .int .i64 (badS a t : Sgn).to] from reject_any s g a t 80 W hA)
      generalize (badS a t : Sgn) = x at NP RX
      go_wp2_with fail
      go_quiet (first | (go_at_call 42; refine Calls.quiet_of_same ((TL.out _).mono (fun _ _ h => h))))
      go_wp2_with fail
      refine (PX.out _).mono ?_
      rintro e w1 ⟨rfl, hb1⟩
      have A1 := Lib.hid ((A.out.drawn _).below hb1 (A.out.drawn _).lt)
      have Z1 := Lib.hid ((Z.out.drawn _).below hb1 (Z.out.drawn _).lt)
      have V1 := Lib.hid ((V.out.drawn _).trans (.of_below hb1 (Nat.le_refl _)))
      clear hb1
      go_wp2_with fail
      refine (RX.out _ A1.out).mono ?_
      rintro e w2 ⟨rfl, hv, hq⟩
      have Z2 := Lib.hid (hv.whole Z1.out (by omega))
      have V2 := Lib.hid (Sv.trans V1.out hv)
      have A2 := Lib.hid hq
      clear hv hq
      have q0 : w2.cell? ⟨w.heap.size, 0, none⟩ = some (.int .i64 0) := Z2.out.cell 0
      have f0 := Z2.out.free 0
      have q1 : w2.cell? ⟨w.heap.size, 1, none⟩ = some (.int .i64 0) := Z2.out.cell 1
      have f1 := Z2.out.free 1
      have q2 : w2.cell? ⟨w.heap.size, 2, none⟩ = some (.int .i64 0) := Z2.out.cell 2
      have f2 := Z2.out.free 2
      have q3 : w2.cell? ⟨w.heap.size, 3, none⟩ = some (.string ⟨#[]⟩) := Z2.out.cell 3
      have f3 := Z2.out.free 3
      have q4 : w2.cell? ⟨w.heap.size, 4, none⟩ = some (.int .i32 0) := Z2.out.cell 4
      have f4 := Z2.out.free 4
      go_wp2_with fail
      refine bodyPost_ret (v := .tuple #[sgnV x, .int .i64 80]) ?_ rfl ⟨by rw [NP.out], V2.out.set5 _ (Nat.le_refl _) _ _ _ _ _, by rw [NP.out]; exact A2.out.far5 _ (by omega) _ _ _ _ _⟩
      simp [results, Tryd.results24, go_sem, q0, q1, q2, q3, q4]
    · have hle : (n : Int) ≤ 2147483647 := of_decide_eq_true hok
      rw [if_neg (by omega)] at NP
      have PV := Lib.hid (show parsedV n = .tuple #[.int .i32 n, .bool true] from by unfold parsedV; rw [if_pos hle])
      rw [PV.out] at PX
      clear PV hok hle
      have RX := Lib.hid (fun (W : World) (hA : Whole W g scT #[.string s, .int .i64 a]) => show Calls Tryd.prog 20 #[.pointer (some ⟨g, 0, none⟩), .int .i64 2, .int .i64 t, .int .i32 n] W fun e w' => e = .returned (.tuple #[sgnV (⟨2, a, t, s.extract a t, n⟩), .int .i64 0]) ∧ Sv g W w' ∧ Whole w' g scT #[.string s, .int .i64 (⟨2, a, t, s.extract a t, n⟩ : Sgn).to] from take_any s g a t 2 n W hA hs (by omega) (by omega))
      generalize (⟨2, a, t, s.extract a t, n⟩ : Sgn) = x at NP RX
      go_wp2_with fail
      go_quiet (first | (go_at_call 42; refine Calls.quiet_of_same ((TL.out _).mono (fun _ _ h => h))))
      go_wp2_with fail
      refine (PX.out _).mono ?_
      rintro e w1 ⟨rfl, hb1⟩
      have A1 := Lib.hid ((A.out.drawn _).below hb1 (A.out.drawn _).lt)
      have Z1 := Lib.hid ((Z.out.drawn _).below hb1 (Z.out.drawn _).lt)
      have V1 := Lib.hid ((V.out.drawn _).trans (.of_below hb1 (Nat.le_refl _)))
      clear hb1
      go_wp2_with fail
      refine (RX.out _ A1.out).mono ?_
      rintro e w2 ⟨rfl, hv, hq⟩
      have Z2 := Lib.hid (hv.whole Z1.out (by omega))
      have V2 := Lib.hid (Sv.trans V1.out hv)
      have A2 := Lib.hid hq
      clear hv hq
      have q0 : w2.cell? ⟨w.heap.size, 0, none⟩ = some (.int .i64 0) := Z2.out.cell 0
      have f0 := Z2.out.free 0
      have q1 : w2.cell? ⟨w.heap.size, 1, none⟩ = some (.int .i64 0) := Z2.out.cell 1
      have f1 := Z2.out.free 1
      have q2 : w2.cell? ⟨w.heap.size, 2, none⟩ = some (.int .i64 0) := Z2.out.cell 2
      have f2 := Z2.out.free 2
      have q3 : w2.cell? ⟨w.heap.size, 3, none⟩ = some (.string ⟨#[]⟩) := Z2.out.cell 3
      have f3 := Z2.out.free 3
      have q4 : w2.cell? ⟨w.heap.size, 4, none⟩ = some (.int .i32 0) := Z2.out.cell 4
      have f4 := Z2.out.free 4
      go_wp2_with fail
      refine bodyPost_ret (v := .tuple #[sgnV x, .int .i64 0]) ?_ rfl ⟨by rw [NP.out], V2.out.set5 _ (Nat.le_refl _) _ _ _ _ _, by rw [NP.out]; exact A2.out.far5 _ (by omega) _ _ _ _ _⟩
      simp [results, Tryd.results24, go_sem, q0, q1, q2, q3, q4]

end Go.Proofs.YtbkagnhficmdhaaDoor
